import copy
import itertools
import unittest

from roadpence import errors
from roadpence.books import Rulebook
from roadpence.cases import first_apart, is_tree, tree_of
from roadpence.desk import Desk
from roadpence.journeys import Journey
from roadpence.moneys import rate_on, share_of
from roadpence.rules import Rule
from roadpence.settling import Verdict, days_pay, difference, owed, verdicts
from roadpence.spendings import Spending
from roadpence.texts import book_text, read_book, read_rule, read_spending, rule_text, spending_text
from tests.samples import deep_list, whatever

RATES = ((1, 0, 3, 2), (1, 3, 5, 4), (2, 0, 1, 7))
TABLE = (2400, 3605, 0, 1999)
SPOT = ("meal", 1, True, 2, 1250)
STORY = (
    "towns 1 1 2 0",
    "rule meals cut bound=2000 kind=meal",
    "rule bare refuse over=1000 bare",
    "rule beds let kind=bed last=1",
    "rule rides hundredths bound=45 kind=ride",
    "add meal 2600 day=2 heads=2 money=1",
    "add bed 9900",
    "add bed 9900 day=1 bare",
    "add bed 9900 day=3",
    "add meal 2001 day=1",
    "add ride 333 day=3 money=1",
    "add bed 9900 bare",
    "add fee 6 heads=4",
)


def story():
    """Tell the journey and the book of the story, told otherwise."""
    journey = Journey((1, 1, 2, 0))
    for spending in (
        Spending("fee", 6, heads=4),
        Spending("bed", 9900, 0, False),
        Spending("bed", 9900, 1, False),
        Spending("ride", 333, 3, money=1),
        Spending("bed", 9900, 3),
        Spending("bed", 9900),
        Spending("meal", 2001, 1),
        Spending("meal", 2600, 2, heads=2, money=1),
    ):
        journey.spend(spending)
    rules = [
        Rule("meals", "cut", 2000, "meal"),
        Rule("bare", "refuse", over=1000, paper=False),
        Rule("beds", kind="bed", last=1),
        Rule("rides", "hundredths", 45, "ride"),
    ]
    return journey, Rulebook(rules)


def refusing(thing):
    """Tell what is asked with a thing of whatever kind, and the refusal that is due where it is none."""
    journey, book, line = Journey((0, 1)), Rulebook([Rule("eats")]), Spending("meal", 1)
    return [
        (errors.NoSpending, lambda: Spending(thing, 1)),
        (errors.NoSpending, lambda: Spending("meal", thing)),
        (errors.NoSpending, lambda: Spending("meal", 1, thing)),
        (errors.NoSpending, lambda: Spending("meal", 1, money=thing)),
        (errors.NoRates, lambda: rate_on(thing, 0, 0)),
        (errors.NoRates, lambda: share_of(line, thing)),
        (errors.NoRule, lambda: Rule(thing)),
        (errors.NoRule, lambda: Rule("eats", thing)),
        (errors.NoRule, lambda: Rule("eats", "cut", thing)),
        (errors.NoSpot, lambda: Rule("eats").meets(thing)),
        (errors.NoSpot, lambda: book.paid_of(thing)),
        (errors.NoShare, lambda: Rule("eats").pays(thing)),
        (errors.NoShare, lambda: book.room("meal", 0, 0, True, thing)),
        (errors.NoBook, lambda: Rulebook(thing)),
        (errors.NoBook, lambda: book.with_rule(thing)),
        (errors.NoPlace, lambda: book.with_rule(Rule("rest"), thing)),
        (errors.NoName, lambda: book.rule(thing)),
        (errors.NoName, lambda: book.without(thing)),
        (errors.NoJourney, lambda: Journey(thing)),
        (errors.NoJourney, lambda: Journey((0,), thing)),
        (errors.NoJourney, lambda: Journey((0,), 0, thing)),
        (errors.Absent, lambda: journey.strike(thing)),
        (errors.NoShare, lambda: journey.had(thing)),
        (errors.NoDay, lambda: journey.town_on(thing)),
        (errors.NoRates, lambda: verdicts(journey, book, thing)),
        (errors.NoRates, lambda: owed(journey, book, thing)),
        (errors.NoRates, lambda: difference(journey, journey, book, thing)),
        (errors.NoTable, lambda: days_pay(journey, thing)),
        (errors.NoTable, lambda: owed(journey, book, None, thing)),
        (errors.NoTable, lambda: difference(journey, journey, book, None, thing)),
        (errors.NoRates, lambda: Desk(thing)),
        (errors.NoTable, lambda: Desk(None, thing)),
        (errors.NoText, lambda: read_spending(thing)),
        (errors.NoText, lambda: read_rule(thing)),
        (errors.NoText, lambda: read_book(thing)),
        (errors.NoLine, lambda: Desk().say(thing)),
    ]


# Each of these is what is asked for somewhere in the list above.
TAKEN = (None, 0, 1, "meal", "meals", "mea", "x", (), (1,), (1, 0, 1, 1), ((1, 0, 1, 1),), [], Rule("eats"))


class Story(unittest.TestCase):
    """Point 1, all of it at once."""

    # 2600 at 3/2, shared by two; the bed of the day 0 once; 333 at 5/4 is 416 and a quarter, and 187 hundredths down.
    LINES = "9900:beds 0:twin 0:none 0:bare 2000:meals 1950:meals 0:none 187:rides"
    PAID = 9900 + 2000 + 1950 + 187

    def told(self, rates=RATES, table=TABLE):
        desk = Desk(rates, table)
        for line in STORY:
            self.assertEqual(desk.say(line), "ok")
        return desk

    def test_a_desk(self):
        desk = self.told()
        days = 3605 + 3605 + 0 + 2400
        self.assertEqual(desk.say("lines"), self.LINES)
        self.assertEqual(desk.say("twins"), "1")
        self.assertEqual(desk.say("owed"), str(days + self.PAID))
        self.assertEqual(desk.say("had 25000"), "ok")
        self.assertEqual(desk.say("owed"), str(days + self.PAID - 25000))
        self.assertEqual(desk.say("room meal 1"), "2000")
        self.assertEqual(desk.say("room bed 1"), "1000000")
        self.assertEqual(desk.say("room bed 2"), "none")
        self.assertEqual(desk.say("strike bed 9900"), "ok")
        # Its twin is without a paper, and no longer a twin.
        self.assertEqual(desk.say("lines"), "0:bare 0:none 0:bare 2000:meals 1950:meals 0:none 187:rides")
        self.assertEqual(desk.say("undo"), "ok")
        self.assertEqual(desk.say("lines"), self.LINES)

    def test_whatever_the_order(self):
        journey, book = story()
        rows = verdicts(journey, book, RATES)
        self.assertEqual(" ".join(f"{row.paid}:{row.name or 'none'}" for row in rows), self.LINES)
        self.assertEqual([row.share for row in rows], [9900, 9900, 2, 9900, 2001, 1950, 9900, 416])
        for begun, ended in itertools.product((0, 3, 10), (0, 7, 10)):
            other = Journey((1, 1, 2, 0), begun, ended)
            for line in journey.lines()[::-1]:
                other.spend(line)
            days = 3605 * begun // 10 + 3605 + 2400 * ended // 10
            self.assertEqual(owed(other, book, RATES, TABLE), days + self.PAID)

    def test_texts_tell_the_same(self):
        journey, book = story()
        self.assertEqual(book_text(book), "\n".join(line[5:] for line in STORY if line.startswith("rule ")))
        told = sorted(line[4:] for line in STORY if line.startswith("add "))
        self.assertEqual(sorted(spending_text(line) for line in journey.lines()), told)
        self.assertEqual(read_book(book_text(book)), book)
        self.assertEqual([read_rule(rule_text(rule)) for rule in book.rules()], book.rules())

    def test_two_books(self):
        journey, book = story()
        other = book.with_rule(Rule("meal", "each", 1, "meal", over=2000), 1)
        self.assertIs(first_apart(book, other), None)
        self.assertTrue(is_tree(book, other, tree_of(book, other)))
        self.assertEqual(owed(journey, other, RATES, TABLE), owed(journey, book, RATES, TABLE))
        other = book.with_rule(Rule("meal", "each", 1, "meal", over=2000), 0)
        self.assertEqual(first_apart(book, other), ("meal", 0, False, 0, 2001))
        self.assertIs(tree_of(book, other), None)
        self.assertEqual(owed(journey, other, RATES) - owed(journey, book, RATES), 1)
        self.assertEqual(self.told().say("apart meal each bound=1 kind=meal over=2000"), "meal 0 bare 0 2001")

    def test_a_spending_more(self):
        journey, book = story()
        for more, paid in (
            (Spending("bed", 100, 1), 100),
            (Spending("bed", 9900, heads=3), 0),
            (Spending("meal", 2600, 2, money=2), 371),
            (Spending("meal", 2600, 2, False, 6, 1), 0),
            (Spending("sundry", 10 ** 6, 2), 0),
        ):
            after = journey.twin()
            after.spend(more)
            self.assertEqual(difference(journey, after, book, RATES, TABLE), paid)
            self.assertEqual(difference(after, journey, book, RATES, TABLE), -paid)


class Things(unittest.TestCase):
    """Points 2 and 4, a thing of whatever kind wherever a refusal is told."""

    def test_refusals(self):
        for thing in (*whatever(), deep_list(81), deep_list(120), [0] * 5000, "x" * 2100):
            if thing in TAKEN:
                continue
            kept = repr(thing)
            for error, ask in refusing(thing):
                with self.subTest(thing=thing, error=error):
                    with self.assertRaises(error) as caught:
                        ask()
                    self.assertIs(type(caught.exception), error)
                    self.assertIsInstance(str(caught.exception), str)
            self.assertEqual(repr(thing), kept)

    def test_things_that_are_told_whether(self):
        book = Rulebook([Rule("eats")])
        for thing in (*whatever(), deep_list(120), [0] * 5000):
            with self.subTest(thing=thing):
                self.assertIs(is_tree(book, book, thing), False)
                for one in (Spending("meal", 2), Rule("rest"), Rulebook([Rule("rest")]), Journey((1, 2))):
                    self.assertIs(one == thing, False)
                self.assertEqual(Verdict(thing, 0, 0, None), Verdict(thing, 0, 0, None))

    def test_a_truth_is_no_number(self):
        for truth in (True, False):
            for error, ask in refusing(truth):
                with self.subTest(error=error), self.assertRaises(error):
                    ask()


class Bases(unittest.TestCase):
    """Point 4, what each refusal is caught by."""

    def refusals(self):
        """Tell one refusal of each class, as the program raises it."""
        full, book = Journey((0,)), Rulebook([Rule("eats")])
        for _ in range(40):
            full.spend(Spending("meal", 1))
        return {
            errors.NoRates: lambda: owed(full, book, []),
            errors.NoSpot: lambda: book.paid_of(()),
            errors.NoShare: lambda: full.had(0),
            errors.NoBook: lambda: book.with_rule(Rule("eats")),
            errors.NoPlace: lambda: book.with_rule(Rule("rest"), 2),
            errors.Absent: lambda: full.strike(Spending("bed", 1)),
            errors.Nothing: lambda: Journey((0,)).undo(),
            errors.NoTable: lambda: days_pay(full, None),
            errors.NoLine: lambda: Desk().say(""),
            errors.NoSpending: lambda: Spending("toll", 1),
            errors.NoRule: lambda: Rule("eats", "pay"),
            errors.NoJourney: lambda: Journey(()),
            errors.NoText: lambda: read_book("eats let\n"),
            errors.TooMany: lambda: full.spend(Spending("meal", 1)),
            errors.NoRate: lambda: share_of(Spending("meal", 1, money=1)),
            errors.NoDay: lambda: full.town_on(1),
            errors.NoName: lambda: book.rule("rest"),
            errors.NoHeads: lambda: Spending("meal", 1, heads=0),
        }

    def test_each_by_its_own_class_and_the_one_above(self):
        above = {
            errors.NoRate: LookupError,
            errors.NoDay: IndexError,
            errors.NoName: KeyError,
            errors.NoHeads: ZeroDivisionError,
        }
        asked = self.refusals()
        for error, ask in asked.items():
            with self.subTest(error=error), self.assertRaises(error) as caught:
                ask()
            refusal = caught.exception
            self.assertEqual(type(refusal).__bases__, (above.get(error, errors.PenceError),))
            self.assertEqual([other for other in asked if isinstance(refusal, other)], [error])
            self.assertEqual(isinstance(refusal, errors.PenceError), error not in above)
            self.assertEqual(isinstance(refusal, ValueError), error not in above)

    def test_all_are_here(self):
        told = {thing for thing in vars(errors).values() if isinstance(thing, type)}
        self.assertEqual(told - set(self.refusals()), {errors.PenceError})


class Staying(unittest.TestCase):
    """Point 3, what is handed in, what is told, and what is told again."""

    def test_what_is_handed_in_stays(self):
        journey, book = story()
        kept = copy.deepcopy((journey, book, RATES, TABLE))
        tree = tree_of(book, book)
        for _ in range(2):
            verdicts(journey, book, RATES)
            owed(journey, book, RATES, TABLE)
            difference(journey, journey, book, RATES, TABLE)
            days_pay(journey, TABLE)
            book_text(book)
            book.with_rule(Rule("more"), 0)
            book.without("beds")
            first_apart(book, Rulebook())
            self.assertTrue(is_tree(book, book, tree))
            journey.twin().undo()
            for line in journey.lines():
                spending_text(line)
                share_of(line, RATES)
                line.but(day=0)
            self.assertEqual((journey, book, RATES, TABLE), kept)
            self.assertEqual(tree_of(book, book), tree)

    def test_a_book_handed_in_may_be_told_more(self):
        journey, book = story()
        told = verdicts(journey, book, RATES)
        rows = book.rules()
        rows.clear()
        journey.lines().clear()
        journey.twins().clear()
        verdicts(journey, book, RATES).clear()
        self.assertEqual(verdicts(journey, book, RATES), told)

    def test_verdicts_do_not_hang_on_the_journey(self):
        journey, book = story()
        told = verdicts(journey, book, RATES)
        kept = repr(told)
        while len(journey) > 0:
            journey.undo()
        self.assertEqual(repr(told), kept)

    def test_a_rulebook_does_not_hang_on_its_list(self):
        rules = [Rule("eats", "cut", 5), Rule("rest", "refuse")]
        book = Rulebook(rules)
        rules.reverse()
        rules.pop()
        self.assertEqual(book.paid_of(SPOT), (5, "eats"))
        self.assertEqual(len(book), 2)

    def test_asked_again(self):
        journey, book = story()
        asks = (
            lambda: repr(journey.lines()),
            lambda: journey.twins(),
            lambda: [journey.town_on(day) for day in range(4)],
            lambda: repr(verdicts(journey, book, RATES)),
            lambda: owed(journey, book, RATES, TABLE),
            lambda: book_text(book),
            lambda: repr(read_book(book_text(book))),
            lambda: tree_of(book, book),
            lambda: first_apart(book, Rulebook()),
        )
        told = [ask() for ask in asks]
        for _ in range(3):
            self.assertEqual([ask() for ask in asks], told)


if __name__ == "__main__":
    unittest.main()
