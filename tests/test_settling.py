import copy
import inspect
import itertools
import random
import unittest

from roadpence import settling
from roadpence.books import Rulebook
from roadpence.cases import first_apart
from roadpence.errors import NoRate, NoRates, NoTable, PenceError
from roadpence.journeys import Journey
from roadpence.rules import Rule
from roadpence.settling import Verdict, days_pay, difference, owed, verdicts
from roadpence.spendings import Spending
from tests import by_hand
from tests.drawn import altered, drawn_book, drawn_rates, drawn_spendings, drawn_towns
from tests.likeness import LikenessTest
from tests.samples import deep_list, far_numbers, no_numbers, whatever
from tests.told import TOWNS, made

SIDE = 10 ** 6
RATES = ((1, 0, 3, 2), (1, 2, 5, 4), (2, 1, 1, 3))
TABLE = (1000, 2005, 0, SIDE)
MEAL = Spending("meal", 1250)
FULL = Spending("meal", 1250, 3, False, 2, 1)
EATS = Rule("eats", "cut", 1000, "meal")
REST = Rule("rest", "refuse")
LET = Rulebook([Rule("all")])
PARTS = ("line", "share", "paid", "name")


def no_rates():
    """Tell things that are no rates; None stands for none at all."""
    forms = [[], list(RATES), RATES[::-1], RATES + RATES[:1], RATES[0], ((0, 0, 1, 1),), ((1, 60, 1, 1),)]
    forms += [((1, 0, 1),), ((1, 0, 0, 1),), ((1, 0, 1, SIDE + 1),), tuple((1, day, 1, 1) for day in range(13))]
    return forms + [thing for thing in whatever() if thing not in (None, (), ((1, 0, 1, 1),))]


def no_tables():
    """Tell things that are no tables; None is one of them for days_pay alone."""
    forms = [[0, 0, 0, 0], list(TABLE), (), (0,), (0, 0, 0), (0, 0, 0, 0, 0), (TABLE,), "0000", dict(enumerate(TABLE))]
    for at in range(4):
        for thing in (-1, SIDE + 1, *far_numbers(), *no_numbers()):
            forms.append((*TABLE[:at], thing, *TABLE[at + 1:]))
    return forms + [thing for thing in whatever() if thing is not None and thing != (1, 0, 1, 1)]


class SettlingTest(LikenessTest):
    def assert_verdicts(self, told, journey, book, *rates):
        """See that these are told, as tuples (line, share, paid, name)."""
        rows = verdicts(journey, book, *rates)
        self.assertIs(type(rows), list)
        self.assertEqual([type(row) for row in rows], [Verdict] * len(rows))
        self.assertEqual([(row.line, row.share, row.paid, row.name) for row in rows], told)
        self.assertEqual([(type(row.share), type(row.paid)) for row in rows], [(int, int)] * len(rows))
        self.assertEqual(rows, [Verdict(*row) for row in told])

    def assert_owed(self, told, journey, book, *args):
        amount = owed(journey, book, *args)
        self.assertEqual(amount, told)
        self.assertIs(type(amount), int)

    def assert_refused(self, error, ask, *args, **named):
        with self.assertRaises(error) as caught:
            ask(*args, **named)
        self.assertIs(type(caught.exception), error)
        return caught.exception

    def assert_no_rate(self, money, day, ask, *args, **named):
        refusal = self.assert_refused(NoRate, ask, *args, **named)
        self.assertEqual((refusal.money, refusal.day), (money, day))
        self.assertNotIsInstance(refusal, PenceError)


class Interface(unittest.TestCase):
    def test_signatures(self):
        for name, told in (
            ("Verdict", "(line, share, paid, name)"),
            ("verdicts", "(journey, book, rates=None)"),
            ("days_pay", "(journey, table)"),
            ("owed", "(journey, book, rates=None, table=None)"),
            ("difference", "(before, after, book, rates=None, table=None)"),
        ):
            self.assertEqual(str(inspect.signature(getattr(settling, name))), told)
            self.assertEqual(getattr(settling, name).__module__, settling.__name__)
        for name in ("__init__", "__eq__", "__repr__"):
            self.assertIn(name, vars(Verdict))


class Verdicts(SettlingTest):
    """Point 70."""

    def test_values(self):
        for verdict in (Verdict(MEAL, 1250, 1000, "eats"), Verdict(name="eats", paid=1000, share=1250, line=MEAL)):
            self.assertEqual((verdict.line, verdict.share, verdict.paid, verdict.name), (MEAL, 1250, 1000, "eats"))

    def test_nothing_is_refused(self):
        for thing in whatever():
            for at, part in enumerate(PARTS):
                values = [MEAL, 1250, 1000, "eats"]
                values[at] = thing
                with self.subTest(thing=thing, part=part):
                    verdict = Verdict(*values)
                    self.assertEqual([getattr(verdict, name) for name in PARTS], values)
                    self.assert_alike(verdict, Verdict(*values))
            self.assert_alike(Verdict(thing, thing, thing, thing), Verdict(thing, thing, thing, thing))
            self.assertIs(type(Verdict(thing, thing, thing, thing).share), type(thing))

    def test_equal_by_all_four(self):
        plain = [MEAL, 1250, 1000, "eats"]
        self.assert_alike(Verdict(*plain), Verdict(MEAL.but(), 1250, 1000, "eats"))
        others = ([MEAL.but(heads=2), None, "meal"], [1251, 0, "1250"], [1001, 0, None], ["eat", None, "", "none"])
        for at, things in enumerate(others):
            for thing in things:
                values = list(plain)
                values[at] = thing
                self.assert_unlike(Verdict(*plain), Verdict(*values))
        self.assert_unlike(Verdict(MEAL, 1, 2, "a"), Verdict(MEAL, 2, 1, "a"))
        self.assert_alike(Verdict(MEAL, 1, 0, None), Verdict(MEAL, 1, 0, None))
        self.assert_unlike(Verdict(MEAL, 1, 0, None), Verdict(MEAL, 1, 0, "none"))

    def test_never_equal_to_a_thing_of_another_kind(self):
        for verdict in (Verdict(MEAL, 1250, 1000, "eats"), Verdict(None, None, None, None), Verdict([], (), {}, "")):
            others = [tuple(getattr(verdict, part) for part in PARTS), [MEAL, 1250, 1000, "eats"], MEAL, repr(verdict)]
            others += [thing for thing in whatever() if not isinstance(thing, Verdict)]
            for thing in others:
                with self.subTest(thing=thing):
                    self.assert_unlike(verdict, thing)

    def test_in_a_list(self):
        rows = [Verdict(MEAL, 1, 0, None), Verdict(MEAL, 1, 1, "a")]
        self.assertIn(Verdict(MEAL, 1, 1, "a"), rows)
        self.assertEqual(rows.index(Verdict(MEAL, 1, 1, "a")), 1)
        self.assertNotIn(Verdict(MEAL, 1, 1, "b"), rows)

    def test_repr(self):
        full = "Spending('meal', 1250, day=3, paper=False, heads=2, money=1)"
        for verdict, told in (
            (Verdict(MEAL, 1250, 1000, "eats"), "Spending('meal', 1250): 1000 of 1250 by eats"),
            (Verdict(MEAL, 1250, 0, None), "Spending('meal', 1250): 0 of 1250 by none"),
            (Verdict(MEAL, 1250, 0, "none"), "Spending('meal', 1250): 0 of 1250 by none"),
            (Verdict(MEAL, 1250, 0, "twin"), "Spending('meal', 1250): 0 of 1250 by twin"),
            (Verdict(FULL, 938, 938000, "each"), f"{full}: 938000 of 938 by each"),
            (Verdict(FULL, 10 ** 12, 10 ** 15, "x"), f"{full}: 1000000000000000 of 1000000000000 by x"),
            (Verdict("meal", "a", "b", "c"), "'meal': b of a by c"),
            (Verdict(None, None, None, None), "None: None of None by none"),
            (Verdict([1], (2,), {3: 4}, ""), "[1]: {3: 4} of (2,) by "),
        ):
            self.assertEqual(repr(verdict), told)
            self.assertEqual(repr([verdict]), f"[{told}]")

    def test_repr_of_whatever(self):
        for thing in whatever():
            self.assertEqual(repr(Verdict(thing, 2, 1, "a")), f"{thing!r}: 1 of 2 by a")
            self.assertEqual(repr(Verdict(1, thing, thing, "a")), f"1: {thing} of {thing} by a")

    def test_what_is_handed_in_may_be_changed_later(self):
        for thing in ([1, [2, {"a": [3]}]], {"a": [1], 2: {3: [4]}}, [([1], {5: [6]})]):
            kept = copy.deepcopy(thing)
            verdict = Verdict(thing, thing, thing, thing)
            thing.clear()
            self.assertEqual([getattr(verdict, part) for part in PARTS], [kept] * 4)
            self.assertEqual(verdict, Verdict(kept, kept, kept, kept))

    def test_what_is_handed_in_may_be_changed_within(self):
        inner = [4]
        thing = [1, (2, [3, {"a": inner}])]
        verdict = Verdict(thing, 1, 1, None)
        inner.append(5)
        self.assertEqual(verdict.line, [1, (2, [3, {"a": [4]}])])
        journey = made([MEAL])
        verdict = Verdict([journey], 1, 1, None)
        journey.had(5)
        self.assertEqual(verdict.line, [made([MEAL])])

    def test_what_is_handed_in_is_not_changed(self):
        thing = [1, (2, [3, {"a": [4]}]), deep_list(80)]
        kept = copy.deepcopy(thing)
        verdict = Verdict(thing, thing, thing, thing)
        verdict.line.clear()
        verdict.share[1][1].append(5)
        self.assertEqual(thing, kept)


class Lines(SettlingTest):
    """Point 71."""

    def test_no_lines(self):
        for rates in ((), (None,), ((),), (RATES,)):
            self.assert_verdicts([], made(), LET, *rates)
            self.assert_verdicts([], made(sums=[5]), Rulebook(), *rates)

    def test_by_the_first_rule_and_by_none(self):
        bed, fee = Spending("bed", 700, 1), Spending("fee", 30, 2)
        journey = made([fee, MEAL, bed])
        book = Rulebook([Rule("late", "hundredths", 50, first=1, last=1), EATS, Rule("eat", "each", 2, "meal")])
        told = [(MEAL, 1250, 1000, "eats"), (bed, 700, 350, "late"), (fee, 30, 0, None)]
        self.assert_verdicts(told, journey, book)
        self.assert_verdicts([(line, share, 0, None) for line, share, _, _ in told], journey, Rulebook())
        self.assert_verdicts([(line, share, share, "all") for line, share, _, _ in told], journey, LET)
        behind = book.without("eats")
        told = [(MEAL, 1250, 2500, "eat"), (bed, 700, 350, "late"), (fee, 30, 0, None)]
        self.assert_verdicts(told, journey, behind)

    def test_the_spot_of_the_line(self):
        towns = (0, 1, 2, 3)
        for line in (MEAL, Spending("bed", 3, 3, False, 2, 1), Spending("ride", 9, 2)):
            share = by_hand.share(line, RATES)
            parts = {"kind": line.kind, "town": towns[line.day], "first": line.day, "last": line.day}
            parts |= {"over": share - 1, "paper": line.paper}
            wrong = {"kind": "fee", "town": (towns[line.day] + 1) % 4, "first": line.day + 1, "last": line.day - 1}
            wrong |= {"over": share, "paper": not line.paper}
            journey = made([line], towns=towns)
            book = Rulebook([Rule("a", "each", 7, **parts)])
            self.assert_verdicts([(line, share, 7 * share, "a")], journey, book, RATES)
            for part, worth in wrong.items():
                named = {**parts, part: worth}
                if named["last"] >= named["first"] or part == "first":
                    named["last"] = max(named["last"], named["first"])
                    book = Rulebook([Rule("a", "each", 7, **named)])
                    self.assert_verdicts([(line, share, 0, None)], journey, book, RATES)

    def test_a_share_of_nothing_is_met_by_no_rule(self):
        line = Spending("fee", 1, heads=6)
        self.assert_verdicts([(line, 0, 0, None)], made([line]), LET)

    def test_several_moneys(self):
        rows = [Spending("bed", 100, day, money=money) for day in range(3) for money in range(3)]
        rows = [row for row in rows if by_hand.rate(RATES, row.money, row.day)]
        shares = [100, 150, 100, 150, 33, 100, 125, 33]
        told = [(row, share, share, "all") for row, share in zip(rows, shares)]
        self.assert_verdicts(told, made(rows[::-1]), LET, RATES)

    def test_twins(self):
        shared, bare = MEAL.but(heads=2), MEAL.but(paper=False)
        journey = made([bare, shared, MEAL])
        told = [(MEAL, 1250, 1000, "eats"), (bare, 1250, 0, "twin"), (shared, 625, 0, "twin")]
        self.assert_verdicts(told, journey, Rulebook([EATS]))
        self.assert_verdicts([(MEAL, 1250, 0, None), *told[1:]], journey, Rulebook())
        self.assert_verdicts([(MEAL, 1250, 0, "rest"), *told[1:]], journey, Rulebook([REST]))
        self.assert_verdicts([(MEAL, 1250, 1250, "all"), (MEAL, 1250, 0, "twin")], made([MEAL, MEAL]), LET)

    def test_a_twin_whose_line_ahead_is_not_met(self):
        # Nobody is paid for the second one, though the first one's paper was asked otherwise.
        bare = MEAL.but(paper=False)
        book = Rulebook([Rule("bare", paper=False)])
        self.assert_verdicts([(MEAL, 1250, 0, None), (bare, 1250, 0, "twin")], made([MEAL, bare]), book)
        self.assert_verdicts([(bare, 1250, 1250, "bare")], made([bare]), book)

    def test_twins_in_other_moneys(self):
        line = MEAL.but(money=1)
        told = [(MEAL, 1250, 1250, "all"), (line, 1875, 1875, "all"), (line, 1875, 0, "twin")]
        self.assert_verdicts(told, made([line, MEAL, line]), LET, RATES)

    def test_rules_called_twin_and_none(self):
        for name in ("twin", "none"):
            book = Rulebook([Rule(name, "cut", 3)])
            self.assert_verdicts([(MEAL, 1250, 3, name)], made([MEAL]), book)
            told = [(MEAL, 1250, 3, name), (MEAL, 1250, 0, "twin")]
            self.assert_verdicts(told, made([MEAL, MEAL]), book)

    def test_bounds(self):
        line = Spending("bed", SIDE, money=1)
        rates = ((1, 0, SIDE, 1),)
        self.assert_verdicts([(line, 10 ** 12, 10 ** 12, "all")], made([line]), LET, rates)
        book = Rulebook([Rule("a", "each", 1000, over=10 ** 12 - 1)])
        self.assert_verdicts([(line, 10 ** 12, 10 ** 15, "a")], made([line]), book, rates)
        line = Spending("bed", SIDE, 29, money=1)
        self.assert_verdicts([(line, 10 ** 12, 10 ** 12, "all")], made([line], towns=(0,) * 30), LET, rates)

    def test_rates_left_out_none_and_empty(self):
        journey = made([MEAL])
        for args in ((), (None,), ((),)):
            self.assert_verdicts([(MEAL, 1250, 1250, "all")], journey, LET, *args)
            self.assert_no_rate(1, 0, verdicts, made([MEAL.but(money=1)]), LET, *args)
        self.assertEqual(verdicts(journey, LET, rates=None), verdicts(journey=journey, book=LET))

    def test_no_rates(self):
        for thing in no_rates():
            with self.subTest(thing=thing):
                for journey in (made(), made([MEAL]), made([MEAL.but(money=3)])):
                    self.assert_refused(NoRates, verdicts, journey, LET, thing)

    def test_no_rate_of_the_first_line(self):
        three, two, one = MEAL.but(day=1, money=3), MEAL.but(money=2), Spending("bed", 1, money=3)
        for order in itertools.permutations((three, two, one)):
            self.assert_no_rate(3, 0, verdicts, made(order), LET, RATES)
            self.assert_no_rate(3, 0, verdicts, made(order), Rulebook())
        for order in itertools.permutations((three, two, MEAL)):
            self.assert_no_rate(2, 0, verdicts, made(order), LET, RATES)
        self.assert_no_rate(3, 1, verdicts, made([MEAL, three]), LET, RATES)

    def test_no_rate_of_a_twin(self):
        line = Spending("bed", 7, 0, True, 1, 2)
        for order in itertools.permutations((line, line.but(heads=2), MEAL.but(day=1, money=3))):
            self.assert_no_rate(2, 0, verdicts, made(order), LET, RATES)

    def test_drawn_by_chance(self):
        chance = random.Random(71)
        for _ in range(300):
            towns, rates = drawn_towns(chance), drawn_rates(chance)
            spendings = drawn_spendings(chance, len(towns))
            book = drawn_book(chance, chance.randint(0, 8))
            told = by_hand.verdicts(towns, spendings, book.rules(), rates)
            self.assert_verdicts(told, made(spendings, towns=towns), book, rates)

    def test_the_list_told_is_the_askers_own(self):
        journey = made([MEAL, MEAL.but(day=1)])
        told = verdicts(journey, LET)
        told.pop()
        told.append(None)
        self.assertEqual(len(verdicts(journey, LET)), 2)
        self.assertEqual(verdicts(journey, LET), verdicts(journey, LET))
        self.assertEqual(journey, made([MEAL, MEAL.but(day=1)]))


class Days(SettlingTest):
    """Point 72, what the days pay."""

    def test_one_day(self):
        for begun, ended in itertools.product(range(11), range(11)):
            for town in range(4):
                journey = Journey((town,), begun, ended)
                told = TABLE[town] * min(begun, ended) // 10
                self.assertEqual(days_pay(journey, TABLE), told)
                self.assertEqual(days_pay(table=TABLE, journey=journey), told)

    def test_two_days(self):
        for begun, ended, told in (
            (10, 10, 3005),
            (0, 0, 0),
            (1, 0, 100),
            (0, 1, 200),
            (3, 3, 901),
            (3, 10, 2305),
            (10, 3, 1601),
            (9, 9, 2704),
        ):
            self.assertEqual(days_pay(Journey((0, 1), begun, ended), TABLE), told)

    def test_each_day_down_to_a_whole_penny(self):
        self.assertEqual(days_pay(Journey((0, 0), 5, 5), (1, 0, 0, 0)), 0)
        self.assertEqual(days_pay(Journey((0, 0), 9, 9), (1, 0, 0, 0)), 0)
        self.assertEqual(days_pay(Journey((0, 0), 3, 7), (9, 0, 0, 0)), 2 + 6)
        self.assertEqual(days_pay(Journey((0, 0, 0), 3, 7), (9, 0, 0, 0)), 2 + 9 + 6)
        self.assertEqual(days_pay(Journey((0,), 1, 1), (19, 0, 0, 0)), 1)

    def test_thirty_days(self):
        towns = tuple(day % 4 for day in range(30))
        whole = 7 * sum(TABLE) + TABLE[0] + TABLE[1]
        self.assertEqual(days_pay(Journey(towns), TABLE), whole)
        self.assertEqual(days_pay(Journey(towns, 0, 0), TABLE), whole - TABLE[0] - TABLE[1])
        self.assertEqual(days_pay(Journey(towns, 3, 1), TABLE), whole - 700 - 1805)
        self.assertEqual(days_pay(Journey((3,) * 30), TABLE), 30 * SIDE)

    def test_drawn_by_chance(self):
        chance = random.Random(72)
        for _ in range(500):
            towns = drawn_towns(chance, chance.choice((1, 2, 3, 30)))
            begun, ended = chance.randint(0, 10), chance.randint(0, 10)
            table = tuple(chance.choice((0, 1, 3, 7, 99, 12345, SIDE)) for _ in range(4))
            told = by_hand.days_pay(towns, begun, ended, table)
            self.assertEqual(days_pay(Journey(towns, begun, ended), table), told)

    def test_spendings_and_sums_play_no_part(self):
        self.assertEqual(days_pay(made([MEAL.but(money=3)], [7]), TABLE), SIDE + 1000)

    def test_no_table(self):
        for journey in (Journey((0,)), Journey(TOWNS, 0, 0)):
            for thing in (None, *no_tables()):
                with self.subTest(thing=thing):
                    self.assert_refused(NoTable, days_pay, journey, thing)

    def test_tables_at_their_bounds(self):
        for table in itertools.product((0, SIDE), repeat=4):
            self.assertEqual(days_pay(Journey((0, 1, 2, 3)), table), sum(table))


class Owed(SettlingTest):
    """Point 72, what is owed."""

    def test_days_and_lines_less_sums(self):
        journey = made([MEAL, MEAL.but(day=1, money=1), MEAL.but(heads=3)], [100, 7], (0, 1), 5, 3)
        book = Rulebook([EATS])
        self.assert_owed(2000 - 107, journey, book, RATES)
        self.assert_owed(2000 - 107 + 500 + 601, journey, book, RATES, TABLE)
        self.assert_owed(500 + 601 - 107, journey, Rulebook(), RATES, TABLE)
        self.assert_owed(-107, journey, Rulebook(), RATES)

    def test_above_at_and_below_0(self):
        rows = (([], 1000), ([999], 1), ([1000], 0), ([400, 600], 0), ([1001], -1), ([10 ** 9], 1000 - 10 ** 9))
        for sums, told in rows:
            self.assert_owed(told, made([MEAL], sums), Rulebook([EATS]))
        self.assert_owed(0, made(), Rulebook())

    def test_bounds(self):
        rates, book = ((1, 0, SIDE, 1),), Rulebook([Rule("a", "each", 1000)])
        spendings = [Spending("bed", SIDE - at, money=1) for at in range(40)]
        told = 1000 * SIDE * sum(SIDE - at for at in range(40))
        self.assert_owed(told, made(spendings), book, rates)
        self.assert_owed(told - 10 ** 10, made(spendings, [10 ** 9] * 10), book, rates)

    def test_left_out_and_none(self):
        journey = made([MEAL], [50])
        for args in ((), (None,), (None, None), ((), None), ((),), ((), (0, 0, 0, 0)), (RATES,)):
            self.assert_owed(950, journey, Rulebook([EATS]), *args)
        book = Rulebook([EATS])
        self.assertEqual(owed(journey=journey, book=book), 950)
        self.assertEqual(owed(journey, book, table=TABLE), 950 + SIDE + 1000)
        self.assertEqual(owed(table=TABLE, rates=RATES, book=book, journey=journey), 950 + SIDE + 1000)

    def test_no_rates_then_no_table_then_no_rate(self):
        want = made([MEAL.but(money=3)])
        for journey in (made(), made([MEAL]), want):
            for thing in no_rates():
                with self.subTest(thing=thing):
                    self.assert_refused(NoRates, owed, journey, LET, thing)
                    self.assert_refused(NoRates, owed, journey, LET, thing, [0])
                    self.assert_refused(NoRates, difference, want, journey, LET, thing)
                    self.assert_refused(NoRates, difference, journey, want, LET, thing, [0])
        for journey in (made(), want):
            for thing in no_tables():
                with self.subTest(thing=thing):
                    self.assert_refused(NoTable, owed, journey, LET, RATES, thing)
                    self.assert_refused(NoTable, owed, journey, LET, table=thing)
                    self.assert_refused(NoTable, difference, want, journey, LET, RATES, thing)
        self.assert_no_rate(3, 0, owed, want, LET, RATES, TABLE)
        self.assert_no_rate(3, 0, owed, want, LET)

    def test_the_journey_and_the_book_stay(self):
        journey, book = made([MEAL, MEAL], [5]), Rulebook([EATS, REST])
        for _ in range(3):
            self.assert_owed(SIDE + 2000 - 5, journey, book, RATES, TABLE)
            self.assert_refused(NoTable, owed, journey, book, RATES, [0])
            self.assertEqual(journey, made([MEAL, MEAL], [5]))
            self.assertEqual(book, Rulebook([EATS, REST]))


class Whatever(SettlingTest):
    """Point 73."""

    def drawn(self, chance):
        """Draw towns, spendings, sums and what else it takes to owe."""
        towns = drawn_towns(chance, 5)
        sums = [chance.randint(1, 10 ** 4) for _ in range(chance.randint(0, 10))]
        book = drawn_book(chance, chance.randint(0, 8))
        return towns, drawn_spendings(chance, len(towns), 12), sums, book, drawn_rates(chance)

    def paid(self, towns, spendings, book, rates):
        """Tell by hand what is paid of all these."""
        return sum(paid for _, _, paid, _ in by_hand.verdicts(towns, spendings, book.rules(), rates))

    def test_the_same_whatever_the_order(self):
        chance = random.Random(73)
        for _ in range(200):
            towns, spendings, sums, book, rates = self.drawn(chance)
            told = by_hand.days_pay(towns, 3, 7, TABLE) + self.paid(towns, spendings, book, rates) - sum(sums)
            for _ in range(3):
                self.assert_owed(told, made(spendings, sums, towns, 3, 7), book, rates, TABLE)
                chance.shuffle(spendings)
                chance.shuffle(sums)

    def test_the_same_behind_strike_and_undo(self):
        chance = random.Random(731)
        for _ in range(200):
            towns, spendings, sums, book, rates = self.drawn(chance)
            journey = made(spendings, sums[:9], towns)
            told = owed(journey, book, rates, TABLE)
            for spending in spendings:
                journey.strike(spending)
                journey.spend(spending)
                self.assert_owed(told, journey, book, rates, TABLE)
            journey.had(5)
            self.assert_owed(told - 5, journey, book, rates, TABLE)
            for _ in range(2 * len(spendings) + 1):
                journey.undo()
            self.assert_owed(told, journey, book, rates, TABLE)

    def test_a_spending_more(self):
        chance = random.Random(732)
        seen = set()
        for _ in range(400):
            towns, spendings, sums, book, rates = self.drawn(chance)
            if not spendings:
                continue
            more, ahead = spendings[0], spendings[1:]
            before, after = made(ahead, sums, towns), made(spendings, sums, towns)
            alone = owed(made([more], towns=towns), book, rates)
            told = difference(before, after, book, rates, TABLE)
            is_twin = by_hand.twin_values(more) in [by_hand.twin_values(other) for other in ahead]
            seen.add(is_twin)
            if not is_twin:
                self.assertEqual(told, alone)
            else:
                paid = [self.paid(towns, rows, book, rates) for rows in (ahead, spendings)]
                self.assertEqual(told, paid[1] - paid[0])
        self.assertEqual(seen, {True, False})

    def test_a_twin_more_that_stands_behind(self):
        for more in (MEAL, MEAL.but(paper=False), MEAL.but(heads=2)):
            self.assertEqual(difference(made([MEAL]), made([MEAL, more]), LET), 0)

    def test_a_twin_more_that_stands_ahead(self):
        shared = MEAL.but(heads=2)
        self.assertEqual(difference(made([shared]), made([shared, MEAL]), LET), 625)

    def test_books_that_pay_alike(self):
        chance = random.Random(733)
        alike = 0
        while alike < 60:
            book = drawn_book(chance, chance.randint(1, 5))
            other = altered(chance, book)
            if first_apart(book, other) is None:
                alike += 1
                for _ in range(5):
                    towns, spendings, sums, _, rates = self.drawn(chance)
                    journey = made(spendings, sums, towns)
                    self.assertEqual(owed(journey, book, rates, TABLE), owed(journey, other, rates, TABLE))

    def test_other_deeds_that_pay_alike(self):
        for deeds in ((("let", 0), ("each", 1), ("hundredths", 100)), (("refuse", 0), ("each", 0), ("cut", 0))):
            told = {owed(made([MEAL, FULL.but(day=2)]), Rulebook([Rule("a", *deed)]), RATES) for deed in deeds}
            self.assertEqual(len(told), 1)


class Difference(SettlingTest):
    """Point 73, the difference of two journeys."""

    def test_both_ways_of_three_journeys(self):
        second = made([MEAL, MEAL.but(kind="bed")], [], (1, 3), 5, 5)
        journeys = [made([MEAL], [500], (0,)), second, made([], [9], (2,))]
        book = Rulebook([EATS, Rule("beds", "hundredths", 50, "bed")])
        amounts = [500 + 1000, 1625 + 1002 + 500000, -9]
        for (one, here), (other, there) in itertools.product(list(zip(journeys, amounts)), repeat=2):
            told = difference(one, other, book, RATES, TABLE)
            self.assertEqual(told, there - here)
            self.assertIs(type(told), int)
            self.assertEqual(difference(other, one, book, RATES, TABLE), -told)
            self.assertEqual(difference(after=other, before=one, table=TABLE, rates=RATES, book=book), told)
        first, second, third = journeys
        ways = difference(first, second, book, RATES, TABLE) + difference(second, third, book, RATES, TABLE)
        self.assertEqual(ways, difference(first, third, book, RATES, TABLE))

    def test_left_out_and_none(self):
        one, other = made([MEAL]), made([], [5])
        for args in ((), (None,), (None, None), ((), (0, 0, 0, 0))):
            self.assertEqual(difference(one, other, LET, *args), -1255)

    def test_one_journey_and_its_twin(self):
        one = made([MEAL], [5])
        other = one.twin()
        self.assertEqual(difference(one, one, LET), 0)
        self.assertEqual(difference(one, other, LET), 0)
        other.spend(MEAL.but(day=1))
        self.assertEqual(difference(one, other, LET), 1250)

    def test_no_rate_of_the_first_journey_ahead(self):
        three, two = made([MEAL.but(day=2, money=3)]), made([Spending("bed", 1, money=2)])
        self.assert_no_rate(3, 2, difference, three, two, LET, RATES)
        self.assert_no_rate(2, 0, difference, two, three, LET, RATES)
        self.assert_no_rate(3, 2, difference, made([MEAL]), three, LET, RATES)
        self.assert_no_rate(3, 2, difference, three, made([MEAL]), LET, RATES)


if __name__ == "__main__":
    unittest.main()
