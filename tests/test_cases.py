import copy
import inspect
import itertools
import random
import unittest

from roadpence import cases
from roadpence.books import Rulebook
from roadpence.cases import first_apart, tree_of
from roadpence.rules import Rule
from tests import by_hand
from tests.drawn import BOUNDS, NAMES, altered, but, drawn_book, halves

MOST = 10 ** 12
# The least spot of all, but for its share.
LEAST = ("bed", 0, False, 0)


def pair_by_hand(one, other):
    """Tell the least share at which books of one rule each part, where these meet whichever spot."""
    for share in by_hand.telling_shares([one, other]):
        spot = (*LEAST, share)
        if by_hand.paid([one], spot) != by_hand.paid([other], spot):
            return spot
    return None


class CasesTest(unittest.TestCase):
    def assert_apart(self, told, one, other):
        """See where two books part, both ways about, and that there is a tree just where they don't."""
        for here, there in ((one, other), (other, one)):
            spot = first_apart(here, there)
            self.assertEqual(spot, told)
            if told is not None:
                self.assertEqual([type(thing) for thing in spot], [str, int, bool, int, int])
            self.assertEqual(tree_of(here, there) is None, told is not None)

    def assert_rules_apart(self, told, one, other):
        self.assert_apart(told, Rulebook([one]), Rulebook([other]))


class Interface(unittest.TestCase):
    def test_signatures(self):
        for name, told in (
            ("first_apart", "(one, other)"),
            ("is_tree", "(one, other, thing)"),
            ("tree_of", "(one, other)"),
        ):
            self.assertEqual(str(inspect.signature(getattr(cases, name))), told)
            self.assertEqual(getattr(cases, name).__module__, cases.__name__)


class Alike(CasesTest):
    """Point 50, books that don't part."""

    def test_no_rules(self):
        self.assert_apart(None, Rulebook(), Rulebook())
        self.assert_apart(None, Rulebook(), Rulebook([Rule("a", "refuse")]))
        self.assert_apart(None, Rulebook(), Rulebook([Rule("a", over=MOST)]))

    def test_the_same_book(self):
        chance = random.Random(50)
        for many in range(9):
            for _ in range(20):
                book = drawn_book(chance, many)
                self.assert_apart(None, book, book)
                self.assert_apart(None, book, Rulebook(book.rules()))

    def test_other_deeds_that_pay_alike(self):
        all_of_it = (("let", 0), ("each", 1), ("hundredths", 100), ("cut", MOST))
        nothing = (("refuse", 0), ("each", 0), ("hundredths", 0), ("cut", 0))
        for rows in (all_of_it, nothing):
            for one, other in itertools.product(rows, rows):
                for parts in ({}, {"kind": "ride", "town": 0, "first": 5, "last": 5, "over": 7, "paper": False}):
                    self.assert_rules_apart(None, Rule("a", *one, **parts), Rule("b", *other, **parts))

    def test_a_rule_that_is_never_reached(self):
        book = Rulebook([Rule("a", "cut", 5, "meal"), Rule("b", "refuse", over=9)])
        for rule in (
            Rule("z", kind="meal"),
            Rule("z", kind="meal", town=2, over=50),
            Rule("z", "each", 3, over=9),
            Rule("z", "each", 3, over=MOST),
        ):
            self.assert_apart(None, book, book.with_rule(rule))
        self.assert_apart(None, book, book.with_rule(Rule("z", "each", 3, over=MOST), 0))
        self.assert_apart(None, book, book.with_rule(Rule("z", "cut", 5, "meal", 1, paper=True), 1))

    def test_hidden_by_several_together(self):
        kinds = [Rule(kind, "cut", 5, kind) for kind in by_hand.KINDS]
        self.assert_apart(None, Rulebook(kinds), Rulebook(kinds + [Rule("z")]))
        self.assert_apart(None, Rulebook(kinds), Rulebook([Rule("z", "cut", 5)]))
        towns = [Rule(name, "cut", 5, town=town) for town, name in enumerate("abcd")]
        self.assert_apart(None, Rulebook(towns), Rulebook(towns + [Rule("z")]))
        papers = [Rule("a", "cut", 5, paper=True), Rule("b", "cut", 5, paper=False)]
        self.assert_apart(None, Rulebook(papers), Rulebook(papers + [Rule("z")]))
        days = [Rule("a", "cut", 5, last=29), Rule("b", "cut", 5, first=30)]
        self.assert_apart(None, Rulebook(days), Rulebook(days + [Rule("z")]))

    def test_exchanged_where_they_do_not_meet_one_spot(self):
        one, other = Rule("a", "cut", 5, "meal"), Rule("b", "refuse", 0, "ride")
        self.assert_apart(None, Rulebook([one, other]), Rulebook([other, one]))
        one, other = Rule("a", "cut", 5, last=9), Rule("b", "refuse", first=10)
        self.assert_apart(None, Rulebook([one, other]), Rulebook([other, one]))

    def test_parted_in_two_by_a_day(self):
        rule = Rule("a", "hundredths", 33, "fee", 2, 3, 50, 8, True)
        for day in range(3, 50):
            self.assert_apart(None, Rulebook([rule]), Rulebook(halves(rule, day)))

    def test_parted_in_two_by_a_share(self):
        rule = Rule("a", "cut", 70, "fee", over=8)
        for over in (8, 9, 70, 71, 10 ** 9, MOST - 1, MOST):
            self.assert_apart(None, Rulebook([rule]), Rulebook([but(rule, name="b", over=over), rule]))

    def test_by_bounds_and_overs_that_tell_the_same(self):
        over = Rulebook([Rule("b", "cut", 5, over=5), Rule("a")])
        self.assert_apart(None, over, Rulebook([Rule("a", "cut", 5)]))
        few = Rulebook([Rule("a", "refuse", over=1), Rule("b", "hundredths", 99)])
        self.assert_apart(None, few, Rulebook())
        few = Rulebook([Rule("a", "refuse", over=1), Rule("b")])
        self.assert_apart(None, few, Rulebook([Rule("a", "refuse", over=1), Rule("b", "cut", 1)]))


class Apart(CasesTest):
    """Point 50, the least spot at which books part."""

    def test_one_rule_more(self):
        for parts, told in (
            ({}, ("bed", 0, False, 0, 1)),
            ({"kind": "bed"}, ("bed", 0, False, 0, 1)),
            ({"kind": "sundry"}, ("sundry", 0, False, 0, 1)),
            ({"town": 3}, ("bed", 3, False, 0, 1)),
            ({"paper": True}, ("bed", 0, True, 0, 1)),
            ({"paper": False}, ("bed", 0, False, 0, 1)),
            ({"first": 59}, ("bed", 0, False, 59, 1)),
            ({"first": 3, "last": 5}, ("bed", 0, False, 3, 1)),
            ({"over": 99}, ("bed", 0, False, 0, 100)),
            ({"over": MOST - 1}, ("bed", 0, False, 0, MOST)),
            ({"over": MOST}, None),
            (
                {"kind": "ride", "town": 2, "paper": True, "first": 7, "last": 7, "over": 123456789},
                ("ride", 2, True, 7, 123456790),
            ),
        ):
            with self.subTest(parts=parts):
                self.assert_apart(told, Rulebook(), Rulebook([Rule("a", **parts)]))

    def test_another_bound(self):
        for deed, one, other, share in (
            ("cut", 0, 1, 1),
            ("cut", 5, 6, 6),
            ("cut", 5, 7, 6),
            ("cut", 5, MOST, 6),
            ("cut", MOST - 1, MOST, MOST),
            ("cut", MOST - 2, MOST, MOST - 1),
            ("each", 0, 1, 1),
            ("each", 1, 2, 1),
            ("each", 999, 1000, 1),
            ("hundredths", 0, 1, 100),
            ("hundredths", 0, 2, 50),
            ("hundredths", 0, 3, 34),
            ("hundredths", 1, 2, 50),
            ("hundredths", 49, 50, 2),
            ("hundredths", 50, 51, 51),
            ("hundredths", 98, 99, 51),
            ("hundredths", 99, 100, 1),
        ):
            with self.subTest(deed=deed, one=one, other=other):
                spot = pair_by_hand(Rule("a", deed, one), Rule("a", deed, other))
                self.assertEqual(spot[4], share)
                self.assert_rules_apart((*LEAST, share), Rule("a", deed, one), Rule("a", deed, other))

    def test_each_two_hundredths(self):
        for one, other in itertools.combinations(range(101), 2):
            here, there = Rule("a", "hundredths", one), Rule("a", "hundredths", other)
            told = next(share for share in range(101) if one * share // 100 != other * share // 100)
            self.assertEqual(first_apart(Rulebook([here]), Rulebook([there])), (*LEAST, told))

    def test_hundredths_from_any_share_on(self):
        for one, other in ((0, 1), (50, 51), (98, 99), (33, 34), (7, 9)):
            for over in range(105):
                shares = range(over + 1, over + 102)
                told = next(share for share in shares if one * share // 100 != other * share // 100)
                here, there = Rule("a", "hundredths", one, over=over), Rule("a", "hundredths", other, over=over)
                self.assert_rules_apart((*LEAST, told), here, there)

    def test_cut_and_hundredths(self):
        # Ahead of over the books pay alike, and behind it until so many hundredths are more than the bound.
        for bound, hundredths in ((0, 1), (1, 1), (10, 7), (10 ** 6, 3), (123456789, 41), (10 ** 10 - 1, 1)):
            low = -(-100 * bound // hundredths)
            told = -(-100 * (bound + 1) // hundredths)
            for over in {max(low - 1, 0), low, told - 1}:
                here = Rule("a", "cut", bound, over=over)
                there = Rule("a", "hundredths", hundredths, over=over)
                with self.subTest(bound=bound, hundredths=hundredths, over=over):
                    self.assert_rules_apart((*LEAST, told), here, there)
            if low >= 2:
                here = Rule("a", "cut", bound, over=low - 2)
                there = Rule("a", "hundredths", hundredths, over=low - 2)
                self.assert_rules_apart((*LEAST, low - 1), here, there)

    def test_beyond_all_shares(self):
        # Of 10 ** 12 one hundredth is 10 ** 10, so behind its over the cut is never passed.
        over = 100 * 10 ** 10 - 1
        here, there = Rule("a", "cut", 10 ** 10, over=over), Rule("a", "hundredths", 1, over=over)
        self.assert_rules_apart(None, here, there)
        here, there = Rule("a", "cut", 990000000000 - 1, over=MOST - 1), Rule("a", "hundredths", 99, over=MOST - 1)
        self.assert_rules_apart((*LEAST, MOST), here, there)
        here, there = Rule("a", "cut", 990000000000, over=MOST - 1), Rule("a", "hundredths", 99, over=MOST - 1)
        self.assert_rules_apart(None, here, there)

    def test_each_two_deeds_by_hand(self):
        rules = [Rule("a", deed, bound) for deed, bounds in BOUNDS.items() for bound in bounds]
        for one, other in itertools.product(rules, rules):
            for over in (0, 1, 3, 51, 101, 5000):
                here, there = but(one, over=over), but(other, over=over)
                with self.subTest(here=here, there=there):
                    told = first_apart(Rulebook([here]), Rulebook([there]))
                    self.assertEqual(told, pair_by_hand(here, there))

    def test_ends_that_cut_alike_stretches_short(self):
        # They would part at 51, but are not asked of more than 50; behind it they part at once.
        one = Rulebook([Rule("b", over=50), Rule("a", "hundredths", 50)])
        other = Rulebook([Rule("b", over=50), Rule("a", "hundredths", 51)])
        self.assert_apart(None, one, other)
        self.assert_apart((*LEAST, 51), one, Rulebook([Rule("b", over=51), Rule("a", "hundredths", 51)]))
        one = Rulebook([Rule("b", over=51), Rule("a", "hundredths", 50)])
        self.assert_apart((*LEAST, 51), one, Rulebook([Rule("b", over=51), Rule("a", "hundredths", 51)]))

    def test_the_order_of_spots(self):
        # Each has a lesser share than the one ahead, but is greater as tuples compare.
        rules = [
            Rule("a", kind="bed", town=0, first=0, last=0, over=9999, paper=False),
            Rule("b", kind="bed", town=0, first=1, over=999, paper=False),
            Rule("c", kind="bed", town=0, over=99, paper=True),
            Rule("d", kind="bed", town=1, over=9),
            Rule("e", kind="fee"),
        ]
        spots = [
            ("bed", 0, False, 0, 10000),
            ("bed", 0, False, 1, 1000),
            ("bed", 0, True, 0, 100),
            ("bed", 1, False, 0, 10),
            ("fee", 0, False, 0, 1),
        ]
        self.assertEqual(spots, sorted(spots))
        for at, spot in enumerate(spots):
            for order in itertools.permutations(rules[at:]):
                self.assert_apart(spot, Rulebook(), Rulebook(list(order)))

    def test_exchanged(self):
        one, other = Rule("a", "cut", 5, "meal"), Rule("b", "refuse", town=2)
        self.assert_apart(("meal", 2, False, 0, 1), Rulebook([one, other]), Rulebook([other, one]))

    def test_the_books_stay_and_the_same_again(self):
        one, other = Rulebook([Rule("a", "cut", 5, "meal")]), Rulebook([Rule("a", "cut", 6, "meal")])
        kept = copy.deepcopy((one, other))
        for _ in range(3):
            self.assert_apart(("meal", 0, False, 0, 6), one, other)
            self.assertEqual((one, other), kept)
            self.assertEqual(first_apart(one=one, other=other), ("meal", 0, False, 0, 6))


class ByHand(CasesTest):
    """Point 50, held against going through spots."""

    def assert_by_hand(self, one, other, shares, days=by_hand.DAYS):
        told = first_apart(one, other)
        ones, others = one.rules(), other.rules()
        if told is not None:
            self.assertNotEqual(by_hand.paid(ones, told), by_hand.paid(others, told))
            shares, days = {*shares, told[4]}, sorted({*days, told[3]})
        self.assertEqual(by_hand.first_apart(ones, others, shares, days), told)
        self.assert_apart(told, one, other)

    def test_all_spots_of_a_few_shares(self):
        chance = random.Random(501)
        for many in range(9):
            for _ in range(3):
                one = drawn_book(chance, many)
                self.assert_by_hand(one, altered(chance, one), range(9))

    def test_all_days_ends_and_more_shares(self):
        chance = random.Random(502)
        days = (0, 1, 2, 5, 6, 7, 30, 31, 58, 59)
        for _ in range(60):
            one = drawn_book(chance, chance.randrange(9), 0.6)
            shares = [*range(4), 6, 7, 8, 41, 51, 101, 102, 10 ** 6, 10 ** 6 + 1, MOST - 1, MOST]
            self.assert_by_hand(one, altered(chance, one), shares, days)

    def test_unlike_books(self):
        chance = random.Random(503)
        for _ in range(60):
            one, other = drawn_book(chance, chance.randrange(9)), drawn_book(chance, chance.randrange(9))
            self.assert_by_hand(one, other, range(4), (0, 1, 5, 6, 30, 58, 59))

    def test_shares_alone(self):
        chance = random.Random(504)
        overs = (0, 0, 1, 5, 40, 100, 101, 10 ** 4, 10 ** 9, MOST - 1)
        for _ in range(400):
            books = []
            for _ in range(2):
                rules = drawn_book(chance, chance.randrange(1, 6), 1.0).rules()
                books.append([but(rule, over=chance.choice(overs)) for rule in rules])
            spots = [(*LEAST, share) for share in by_hand.telling_shares(books[0] + books[1])]
            apart = [spot for spot in spots if by_hand.paid(books[0], spot) != by_hand.paid(books[1], spot)]
            self.assert_apart(min(apart, default=None), Rulebook(books[0]), Rulebook(books[1]))

    def test_near_books_of_eight(self):
        chance = random.Random(505)
        apart = 0
        for _ in range(200):
            one = drawn_book(chance, 8, 0.4)
            other = altered(chance, altered(chance, one))
            told = first_apart(one, other)
            self.assert_apart(told, one, other)
            apart += told is not None
        # Both ends must come up, or the test says nothing.
        self.assertGreater(apart, 20)
        self.assertLess(apart, 180)

    def test_names_play_no_part(self):
        chance = random.Random(506)
        for many in range(9):
            book = drawn_book(chance, many)
            named = [but(rule, name=name * 2) for name, rule in zip(NAMES, book.rules())]
            self.assert_apart(None, book, Rulebook(named))


if __name__ == "__main__":
    unittest.main()
