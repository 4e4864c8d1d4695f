import copy
import inspect
import itertools
import random
import unittest

from roadpence import books
from roadpence.books import Rulebook
from roadpence.errors import NoBook, NoName, NoPlace, NoShare, NoSpot, PenceError
from roadpence.rules import Rule
from roadpence.spendings import Spending
from tests import by_hand
from tests.drawn import drawn_book
from tests.likeness import LikenessTest
from tests.samples import deep_list, dicts, far_numbers, lists, no_numbers, objects, texts, truths, tuples

MOST = 10 ** 12
NAMES = ("a", "b", "c", "d", "e", "f", "g", "h", "i")
DEEDS = (("let", 0), ("cut", 7), ("each", 2), ("hundredths", 50), ("refuse", 0))


def made(many):
    """Tell rules that are all unlike."""
    return [Rule(name, *DEEDS[at % 5], kind=by_hand.KINDS[at % 5]) for at, name in enumerate(NAMES[:many])]


def things():
    """Tell a thing of each kind, rules and books among them."""
    return [0, 1, 8, *far_numbers(), *truths(), *texts(), *lists(), *tuples(), *dicts(), *objects()]


def no_rules():
    return [None, *[thing for thing in things() if not isinstance(thing, Rule)]]


class BookTest(unittest.TestCase):
    def assert_rules(self, book, rules):
        self.assertIsInstance(book, Rulebook)
        told = book.rules()
        self.assertIs(type(told), list)
        self.assertEqual(told, rules)
        self.assertEqual(len(book), len(rules))

    def assert_no_book(self, make, *args, **named):
        with self.assertRaises(NoBook) as caught:
            make(*args, **named)
        self.assertIs(type(caught.exception), NoBook)

    def assert_no_name(self, name, ask):
        with self.assertRaises(NoName) as caught:
            ask(name)
        self.assertIs(type(caught.exception), NoName)
        self.assertIs(caught.exception.name, name)
        self.assertNotIsInstance(caught.exception, PenceError)
        self.assertIsInstance(str(caught.exception), str)


class Interface(unittest.TestCase):
    def test_signatures(self):
        for function, told in (
            (Rulebook, "(rules=None)"),
            (Rulebook.rule, "(self, name)"),
            (Rulebook.rules, "(self)"),
            (Rulebook.with_rule, "(self, rule, at=None)"),
            (Rulebook.without, "(self, name)"),
            (Rulebook.paid_of, "(self, spot)"),
            (Rulebook.room, "(self, kind, town, day, paper=True, most=1000000)"),
        ):
            self.assertEqual(str(inspect.signature(function)), told)

    def test_defined_in_this_file(self):
        self.assertEqual(Rulebook.__module__, books.__name__)
        for name in ("rule", "rules", "with_rule", "without", "paid_of", "room", "__eq__", "__len__", "__repr__"):
            self.assertIn(name, vars(Rulebook))


class Making(BookTest):
    """Point 40, what is a book."""

    def test_none_to_eight_rules(self):
        for many in range(9):
            rules = made(many)
            self.assert_rules(Rulebook(rules), rules)
            self.assert_rules(Rulebook(rules=rules), rules)
            self.assert_rules(Rulebook(list(reversed(rules))), list(reversed(rules)))

    def test_none_and_left_out(self):
        for book in (Rulebook(), Rulebook(None), Rulebook(rules=None), Rulebook([])):
            self.assert_rules(book, [])

    def test_len_and_truth(self):
        for many in range(9):
            book = Rulebook(made(many))
            self.assertEqual(len(book), many)
            self.assertIs(bool(book), many > 0)
        self.assertIs(bool(Rulebook()), False)

    def test_nine(self):
        self.assert_no_book(Rulebook, made(9))
        self.assert_no_book(Rulebook, made(9) + [None])

    def test_two_of_one_name(self):
        self.assert_no_book(Rulebook, [Rule("a"), Rule("a")])
        self.assert_no_book(Rulebook, [Rule("a"), Rule("a", "refuse", kind="bed")])
        for one, other in itertools.combinations(range(8), 2):
            rules = made(8)
            rules[other] = Rule(NAMES[one], "refuse")
            self.assert_no_book(Rulebook, rules)

    def test_one_rule_twice(self):
        rule = Rule("a")
        self.assert_no_book(Rulebook, [rule, rule])

    def test_names_may_hold_each_other(self):
        rules = [Rule("ab"), Rule("a"), Rule("b"), Rule("abc")]
        self.assert_rules(Rulebook(rules), rules)

    def test_what_is_no_list(self):
        for thing in (tuple(made(2)), (), {}, {0: Rule("a")}, {"a": Rule("a")}, Rule("a"), Rulebook(made(1))):
            self.assert_no_book(Rulebook, thing)
        for thing in things():
            if thing != []:
                with self.subTest(thing=thing):
                    self.assert_no_book(Rulebook, thing)

    def test_a_thing_that_is_no_rule(self):
        for thing in no_rules():
            with self.subTest(thing=thing):
                self.assert_no_book(Rulebook, [thing])
                for at in range(4):
                    rules = made(3)
                    rules.insert(at, thing)
                    self.assert_no_book(Rulebook, rules)

    def test_what_is_refused_is_not_changed(self):
        rules = [Rule("a"), [Rule("b")], {"a": [1]}]
        for _ in range(3):
            self.assert_no_book(Rulebook, rules)
        self.assertEqual(rules, [Rule("a"), [Rule("b")], {"a": [1]}])


class Staying(BookTest):
    """Points 3 and 40: the book stays, whatever becomes of lists."""

    def test_the_list_handed_in(self):
        rules = made(3)
        book = Rulebook(rules)
        self.assert_rules(book, made(3))
        self.assertEqual(rules, made(3))
        rules.append(Rule("z"))
        rules[0] = Rule("y")
        del rules[1]
        self.assert_rules(book, made(3))
        rules.clear()
        self.assert_rules(book, made(3))
        self.assertEqual(repr(book), repr(Rulebook(made(3))))

    def test_the_list_told(self):
        book = Rulebook(made(3))
        told = book.rules()
        told.pop()
        told[0] = None
        self.assert_rules(book, made(3))
        told.clear()
        self.assert_rules(book, made(3))
        book.rules().append(Rule("z"))
        self.assert_rules(book, made(3))
        Rulebook().rules().append(Rule("z"))
        self.assert_rules(Rulebook(), [])

    def test_books_go_on_by_themselves(self):
        rules = made(3)
        one, other = Rulebook(rules), Rulebook(rules)
        one.with_rule(Rule("z"))
        one.without("a")
        self.assert_rules(one, made(3))
        self.assert_rules(other, made(3))


class Equality(LikenessTest):
    """Point 40, == and !=."""

    def test_alike(self):
        self.assert_alike(Rulebook(), Rulebook([]))
        for many in range(9):
            self.assert_alike(Rulebook(made(many)), Rulebook(made(many)))

    def test_other_lengths(self):
        for one, other in itertools.combinations(range(9), 2):
            self.assert_unlike(Rulebook(made(one)), Rulebook(made(other)))

    def test_another_order(self):
        rules = made(3)
        for order in itertools.permutations(rules):
            if list(order) != rules:
                self.assert_unlike(Rulebook(rules), Rulebook(list(order)))

    def test_one_drawn_anew(self):
        for at in range(8):
            rules = made(8)
            rules[at] = Rule(NAMES[at], "cut", 8)
            self.assert_unlike(Rulebook(rules), Rulebook(made(8)))
            rules[at] = made(8)[at]
            self.assert_alike(Rulebook(rules), Rulebook(made(8)))

    def test_books_that_pay_alike_are_unlike(self):
        self.assert_unlike(Rulebook([Rule("a")]), Rulebook([Rule("a", "each", 1)]))
        self.assert_unlike(Rulebook([Rule("a")]), Rulebook([Rule("b")]))
        self.assert_unlike(Rulebook(), Rulebook([Rule("a", "refuse")]))

    def test_never_a_thing_of_another_kind(self):
        for book in (Rulebook(), Rulebook([Rule("eats")])):
            others = [[], (), None, False, True, [Rule("eats")], (Rule("eats"),), Rule("eats"), repr(book), len(book)]
            others += [thing for thing in things() if not isinstance(thing, Rulebook)]
            for thing in others:
                with self.subTest(thing=thing):
                    self.assert_unlike(book, thing)


class Repr(unittest.TestCase):
    """Point 40, the repr."""

    def test_as_the_document_has_it(self):
        told = "Rulebook([Rule('eats'), Rule('rest', deed='refuse')])"
        self.assertEqual(repr(Rulebook([Rule("eats"), Rule("rest", "refuse")])), told)

    def test_none_and_one(self):
        self.assertEqual(repr(Rulebook()), "Rulebook([])")
        self.assertEqual(repr(Rulebook([Rule("a", town=0)])), "Rulebook([Rule('a', town=0)])")

    def test_eight(self):
        rules = made(8)
        self.assertEqual(repr(Rulebook(rules)), "Rulebook([" + ", ".join(repr(rule) for rule in rules) + "])")
        self.assertEqual(eval(repr(Rulebook(rules))), Rulebook(rules))


class Asking(BookTest):
    """Point 41, the rule of a name."""

    def test_each_name(self):
        rules = made(8)
        book = Rulebook(rules)
        for rule in rules:
            self.assertEqual(book.rule(rule.name), rule)
            self.assertEqual(book.rule(name=rule.name), rule)
            self.assertIsInstance(book.rule(rule.name), Rule)

    def test_names_that_are_not_there(self):
        for name in ("z", "", "aa", "A", "a ", " a", "\n", "x" * 2000):
            self.assert_no_name(name, Rulebook(made(8)).rule)
            self.assert_no_name(name, Rulebook().rule)

    def test_things_that_are_no_names(self):
        for thing in (None, 0, 10 ** 29, ["a"], {"a": "a"}, ("a",), Rule("a"), deep_list(80), *things()):
            if thing != "x":
                with self.subTest(thing=thing):
                    self.assert_no_name(thing, Rulebook(made(8)).rule)
                    self.assert_no_name(thing, Rulebook().rule)

    def test_a_name_far_too_deep(self):
        deep = deep_list(20000)
        self.assert_no_name(deep, Rulebook(made(8)).rule)
        self.assert_no_name(deep, Rulebook(made(8)).without)

    def test_the_book_stays(self):
        book = Rulebook(made(3))
        for _ in range(3):
            book.rule("a")
            self.assert_no_name("z", book.rule)
            self.assert_rules(book, made(3))


class WithRule(BookTest):
    """Point 41, a rule more."""

    def test_at_each_place(self):
        new = Rule("z", "refuse")
        for many in range(8):
            for at in range(many + 1):
                rules = made(many)
                book = Rulebook(rules)
                told = made(many)
                told.insert(at, new)
                for more in (book.with_rule(new, at), book.with_rule(rule=new, at=at), book.with_rule(new, at=at)):
                    self.assert_rules(more, told)
                self.assert_rules(book, rules)

    def test_behind_all(self):
        new = Rule("z", "refuse")
        for many in range(8):
            book = Rulebook(made(many))
            for more in (book.with_rule(new), book.with_rule(new, None), book.with_rule(new, many)):
                self.assert_rules(more, made(many) + [new])
            self.assert_rules(book, made(many))

    def test_no_place(self):
        new = Rule("z")
        for many in (0, 1, 3, 7):
            book = Rulebook(made(many))
            beside_none = [thing for thing in no_numbers() if thing is not None]
            for at in (-1, -many - 1, many + 1, many + 2, *far_numbers(), *beside_none, "0", [0], (0,)):
                with self.subTest(many=many, at=at), self.assertRaises(NoPlace) as caught:
                    book.with_rule(new, at)
                self.assertIs(type(caught.exception), NoPlace)
            self.assert_rules(book, made(many))

    def test_a_truth_is_no_place(self):
        book = Rulebook(made(3))
        for at in (True, False):
            with self.assertRaises(NoPlace):
                book.with_rule(Rule("z"), at)

    def test_no_rule(self):
        for many in (0, 3, 8):
            book = Rulebook(made(many))
            for thing in no_rules():
                with self.subTest(thing=thing):
                    self.assert_no_book(book.with_rule, thing)
                    self.assert_no_book(book.with_rule, thing, 0)
            self.assert_rules(book, made(many))

    def test_no_rule_ahead_of_no_place(self):
        book = Rulebook(made(3))
        for thing in no_rules():
            for at in (-1, 4, True, "0", []):
                self.assert_no_book(book.with_rule, thing, at)

    def test_a_name_that_stands(self):
        book = Rulebook(made(3))
        for name in NAMES[:3]:
            for at in (None, 0, 1, 2, 3):
                self.assert_no_book(book.with_rule, Rule(name, "refuse", town=3), at)
        self.assert_no_book(book.with_rule, book.rule("b"))
        self.assert_rules(book, made(3))

    def test_a_ninth(self):
        book = Rulebook(made(8))
        for at in (None, *range(9)):
            self.assert_no_book(book.with_rule, Rule("z"), at)
            self.assert_no_book(book.with_rule, Rule("a"), at)
        self.assert_rules(book, made(8))

    def test_no_place_ahead_of_a_name_that_stands_and_a_ninth(self):
        for many, name in ((3, "a"), (8, "z"), (8, "a")):
            for at in (-1, many + 1, True, False, "0", [], 10 ** 29):
                with self.assertRaises(NoPlace):
                    Rulebook(made(many)).with_rule(Rule(name), at)


class Without(BookTest):
    """Point 41, a rule less."""

    def test_each(self):
        for many in range(1, 9):
            for at in range(many):
                book = Rulebook(made(many))
                told = made(many)
                del told[at]
                self.assert_rules(book.without(NAMES[at]), told)
                self.assert_rules(book.without(name=NAMES[at]), told)
                self.assert_rules(book, made(many))

    def test_there_and_back(self):
        book = Rulebook(made(3))
        for at in range(4):
            self.assertEqual(book.with_rule(Rule("z"), at).without("z"), book)

    def test_no_name(self):
        for many in (0, 3):
            book = Rulebook(made(many))
            for thing in ("z", "", "aa", None, 0, 10 ** 29, ["a"], {"a": "a"}, ("a",), Rule("a"), *things()):
                with self.subTest(thing=thing):
                    self.assert_no_name(thing, book.without)
            self.assert_rules(book, made(many))


class PaidOf(BookTest):
    """Point 42."""

    BOOK = Rulebook([
        Rule("beds", "cut", 9000, "bed"),
        Rule("rest", "refuse", town=2, first=3, last=5),
        Rule("high", "hundredths", 50, over=1000),
        Rule("bare", "refuse", paper=False),
        Rule("twice", "each", 2, "ride"),
        Rule("meals", kind="meal"),
    ])

    def assert_paid(self, told, book, spot):
        paid = book.paid_of(spot)
        self.assertEqual(paid, told)
        self.assertEqual((type(paid), type(paid[0])), (tuple, int))
        self.assertEqual(book.paid_of(spot=spot), told)

    def test_the_first_one_pays(self):
        for spot, told in (
            (("bed", 0, True, 0, 8999), (8999, "beds")),
            (("bed", 2, False, 4, 9001), (9000, "beds")),
            (("meal", 2, True, 4, 5000), (0, "rest")),
            (("meal", 2, True, 2, 5000), (2500, "high")),
            (("meal", 2, True, 6, 1001), (500, "high")),
            (("meal", 2, True, 6, 1000), (1000, "meals")),
            (("meal", 2, False, 6, 1000), (0, "bare")),
            (("ride", 0, True, 0, 1000), (2000, "twice")),
            (("ride", 0, True, 0, 1001), (500, "high")),
            (("ride", 0, False, 0, 1), (0, "bare")),
            (("fee", 0, True, 0, 1000), (0, None)),
            (("fee", 0, True, 0, 0), (0, None)),
            (("bed", 0, True, 0, 0), (0, None)),
        ):
            with self.subTest(spot=spot):
                for _ in range(2):
                    self.assert_paid(told, self.BOOK, spot)

    def test_without_rules(self):
        for spot in (("bed", 0, True, 0, 0), ("sundry", 3, False, 59, MOST)):
            self.assert_paid((0, None), Rulebook(), spot)

    def test_the_order_tells(self):
        rules = [Rule("a"), Rule("b", "refuse"), Rule("c", "each", 3)]
        for order in itertools.permutations(rules):
            first = order[0]
            self.assert_paid((first.pays(5), first.name), Rulebook(list(order)), ("fee", 1, True, 7, 5))

    def test_many_by_hand(self):
        chance = random.Random(42)
        for many in range(9):
            for _ in range(10):
                book = drawn_book(chance, many)
                rules = book.rules()
                for kind, town, paper, day in by_hand.columns((0, 5, 6, 58, 59)):
                    spot = (kind, town, paper, day, chance.choice((0, 1, 2, 6, 7, 101, 102, MOST)))
                    at = by_hand.place_met(rules, spot)
                    told = (0, None) if at is None else (by_hand.pays(rules[at], spot[4]), rules[at].name)
                    self.assert_paid(told, book, spot)

    def test_no_spot(self):
        good = ("meal", 1, False, 5, 101)
        forms = [good[:4], (*good, 1), list(good), dict(enumerate(good)), (good,), None, *things(), "meal"]
        wrong = (("Meal", None), (4, True, None), (0, 1, None), (60, True, None), (-1, MOST + 1, True, None, "1"))
        for at, others in enumerate(wrong):
            forms += [(*good[:at], thing, *good[at + 1:]) for thing in (*others, [], {}, 10 ** 29)]
        for book in (Rulebook(), self.BOOK):
            for thing in forms:
                with self.subTest(thing=thing), self.assertRaises(NoSpot):
                    book.paid_of(thing)


class Room(BookTest):
    """Point 43."""

    def assert_room(self, told, book, *args, **named):
        room = book.room(*args, **named)
        self.assertEqual(room, told)
        self.assertIn(type(room), (int, type(None)))

    def test_each_deed(self):
        for deed, bound, told in (
            ("let", 0, 50),
            ("cut", 0, None),
            ("cut", 1, 1),
            ("cut", 49, 49),
            ("cut", 50, 50),
            ("cut", 51, 50),
            ("cut", MOST, 50),
            ("each", 0, None),
            ("each", 1, 50),
            ("each", 2, None),
            ("each", 1000, None),
            ("hundredths", 0, None),
            ("hundredths", 1, None),
            ("hundredths", 99, None),
            ("hundredths", 100, 50),
            ("refuse", 0, None),
        ):
            with self.subTest(deed=deed, bound=bound):
                self.assert_room(told, Rulebook([Rule("a", deed, bound)]), "bed", 0, 0, True, 50)

    def test_left_out(self):
        book = Rulebook([Rule("a", paper=True)])
        self.assert_room(10 ** 6, book, "bed", 0, 0)
        self.assert_room(10 ** 6, book, kind="bed", town=0, day=0)
        self.assert_room(None, book, "bed", 0, 0, False)
        self.assert_room(7, book, "bed", 0, 0, most=7)
        self.assert_room(MOST, book, day=0, town=0, kind="bed", most=MOST, paper=True)

    def test_no_rules(self):
        for most in (0, 1, 10 ** 6, MOST):
            self.assert_room(None, Rulebook(), "bed", 0, 0, True, most)

    def test_most(self):
        book = Rulebook([Rule("a", "cut", 2500)])
        for most, told in ((0, None), (1, 1), (2499, 2499), (2500, 2500), (2501, 2500), (10 ** 6, 2500), (MOST, 2500)):
            self.assert_room(told, book, "meal", 3, 59, False, most)
        for most in (1, 2, 10 ** 6, MOST - 1, MOST):
            self.assert_room(most, Rulebook([Rule("a")]), "meal", 3, 59, False, most)

    def test_the_ends_of_over(self):
        book = Rulebook([Rule("high", "refuse", over=1000), Rule("low", over=100)])
        for most, told in ((99, None), (100, None), (101, 101), (999, 999), (1000, 1000), (1001, 1000), (MOST, 1000)):
            self.assert_room(told, book, "bed", 0, 0, True, most)
        book = Rulebook([Rule("high", over=1000), Rule("low", "cut", 100, over=50)])
        for most, told in ((50, None), (51, 51), (100, 100), (101, 100), (1000, 100), (1001, 1001), (MOST, MOST)):
            self.assert_room(told, book, "bed", 0, 0, True, most)
        book = Rulebook([Rule("cuts", "cut", 1000, over=1000), Rule("none", "cut", 50, over=50)])
        for most in (50, 51, 1000, 1001, MOST):
            self.assert_room(None, book, "bed", 0, 0, True, most)

    def test_over_at_its_most(self):
        self.assert_room(None, Rulebook([Rule("a", over=MOST)]), "bed", 0, 0, True, MOST)
        self.assert_room(MOST, Rulebook([Rule("a", over=MOST - 1)]), "bed", 0, 0, True, MOST)
        self.assert_room(None, Rulebook([Rule("a", over=MOST - 1)]), "bed", 0, 0, True, MOST - 1)

    def test_by_what_is_met(self):
        book = Rulebook([Rule("a", "cut", 5, "meal", 1, 3, 9, paper=False), Rule("b", "cut", 8, first=3, last=10)])
        for kind, town, day, paper, told in (
            ("meal", 1, 3, False, 5),
            ("meal", 1, 9, False, 5),
            ("meal", 1, 10, False, 8),
            ("meal", 1, 9, True, 8),
            ("meal", 0, 9, False, 8),
            ("bed", 1, 9, False, 8),
            ("meal", 1, 2, False, None),
            ("meal", 1, 11, False, None),
        ):
            self.assert_room(told, book, kind, town, day, paper)

    def test_a_rule_behind_that_is_hidden(self):
        self.assert_room(None, Rulebook([Rule("a", "refuse"), Rule("b")]), "bed", 0, 0)
        self.assert_room(None, Rulebook([Rule("a", "refuse", over=5), Rule("b", over=5)]), "bed", 0, 0)
        self.assert_room(5, Rulebook([Rule("a", "refuse", over=5), Rule("b", over=4)]), "bed", 0, 0)

    def test_many_by_going_through_the_shares(self):
        chance = random.Random(43)
        overs = (0, 1, 2, 6, 7, 8, 100, 101, 150, 400)
        for _ in range(400):
            book = drawn_book(chance, chance.randrange(9), 0.8, overs)
            rules = book.rules()
            kind, town, day = chance.choice(by_hand.KINDS), chance.randrange(4), chance.choice((0, 5, 6, 30, 59))
            paper = chance.choice((False, True))
            for most in (0, 1, 2, 7, 8, 51, 101, chance.randrange(3000)):
                told = by_hand.room(rules, kind, town, day, paper, most)
                self.assert_room(told, book, kind, town, day, paper, most)

    def test_no_share(self):
        for book in (Rulebook(), Rulebook([Rule("a")])):
            for thing in (-1, MOST + 1, *far_numbers(), *no_numbers()):
                with self.subTest(thing=thing), self.assertRaises(NoShare):
                    book.room("bed", 0, 0, True, thing)
            with self.assertRaises(NoShare):
                book.room("bed", 0, 0, most=None)

    def test_the_book_stays_and_the_same_again(self):
        book = Rulebook(made(8))
        kept = copy.deepcopy(book)
        for _ in range(3):
            self.assert_room(10 ** 6, book, "bed", 0, 0)
            self.assert_room(7, book, "fee", 0, 0)
            self.assertEqual(book, kept)


class OtherObjects(unittest.TestCase):
    def test_rules_beside_spendings(self):
        self.assertNotEqual(Rulebook(), Spending("bed", 1))
        self.assertNotEqual(Rule("bed"), Spending("bed", 1))


if __name__ == "__main__":
    unittest.main()
