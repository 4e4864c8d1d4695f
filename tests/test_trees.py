import copy
import itertools
import random
import unittest

from roadpence.books import Rulebook
from roadpence.cases import first_apart, is_tree, tree_of
from roadpence.rules import Rule
from tests import by_hand
from tests.by_hand import KINDS
from tests.drawn import altered, but, drawn_book, halves
from tests.samples import deep_list, dicts, far_numbers, lists, objects, texts, truths, tuples

MOST = 10 ** 12
NONE = ("met", None, None)
FIRST = ("met", 0, 0)
EATS = Rulebook([Rule("eats", "cut", 2500, "meal", 1, 3, 9, 100, False)])
# Right for EATS and itself.
EATS_TREE = (
    "kind",
    "meal",
    (
        "town",
        1,
        ("paper", NONE, ("day", 3, NONE, ("day", 10, ("share", 100, NONE, FIRST), NONE))),
        NONE,
    ),
    NONE,
)
# All that each rule of these books is paid for is told by one question.
KIND = Rulebook([Rule("a", "cut", 5, "meal", over=0)])
ALL = Rulebook([Rule("a")])
ALL_TREE = ("share", 0, NONE, FIRST)


def things():
    """Tell a thing of each kind that is no tree."""
    words = ["met", "kind", "town", "day", "share", "paper"]
    told = [None, 0, 1, *words, *far_numbers(), *truths(), *texts(), *lists(), *tuples(), *dicts(), *objects()]
    return [*told, deep_list(80), deep_tuple(80), ["met", None, None], {"met": None}]


def deep_tuple(depth):
    thing = ()
    for _ in range(depth - 1):
        thing = (thing,)
    return thing


def places(tree):
    """Tell the way to each tuple within a tree, and to each thing within these."""
    told, left = [()], [()]
    while left:
        way = left.pop()
        here = thing_at(tree, way)
        for at, thing in enumerate(here):
            told.append((*way, at))
            if type(thing) is tuple:
                left.append((*way, at))
    return told


def thing_at(tree, way):
    for at in way:
        tree = tree[at]
    return tree


def changed(tree, way, thing):
    """Tell the tree with another thing at the end of a way."""
    if not way:
        return thing
    at = way[0]
    return (*tree[:at], changed(tree[at], way[1:], thing), *tree[at + 1:])


def many_changes(tree, way):
    """Tell what may stand at the end of a way otherwise."""
    thing = thing_at(tree, way)
    words = ["met", "kind", "town", "day", "share", "paper", "Met", "", *KINDS]
    others = [None, True, False, -1, 0, 1, 2, 3, 4, 59, 60, 100, 101, MOST, MOST + 1, *words, (), [], {}, NONE, FIRST]
    if type(thing) is int:
        others += [thing - 1, thing + 1, bool(thing), str(thing), (thing,)]
    if type(thing) is tuple:
        others += [list(thing), thing[::-1], (*thing, None), (*thing, thing[-1]), thing[:-1], thing[1:], (thing,)]
        others += [(*thing[:-2], thing[-1], thing[-2]), (*thing[:1], *thing), (thing[0], thing, *thing[2:])]
        others += [("paper", thing, thing), ("paper", thing, NONE), ("day", 30, thing, NONE), ("kind", "bed", thing)]
    return others


class TreesTest(unittest.TestCase):
    def assert_tree(self, told, one, other, thing):
        self.assertIs(is_tree(one, other, thing), told)

    def assert_right(self, one, other, thing=ALL_TREE):
        self.assert_tree(True, one, other, thing)

    def assert_wrong(self, one, other, thing):
        self.assert_tree(False, one, other, thing)

    def assert_tree_told(self, one, other):
        """See that the tree told is right, and not too deep."""
        tree = tree_of(one, other)
        self.assertTrue(by_hand.has_form(tree, one.rules(), other.rules()))
        self.assertLessEqual(by_hand.depth(tree), 60)
        self.assert_right(one, other, tree)
        return tree


class ByHand(TreesTest):
    """Point 51, trees written by hand."""

    def test_no_rules(self):
        none = Rulebook()
        self.assert_right(none, none, NONE)
        for leaf in (("met", 0, None), ("met", None, 0), FIRST, ("met", -1, None)):
            self.assert_wrong(none, none, leaf)
        for tree in (
            ("kind", "bed", NONE, NONE),
            ("town", 0, NONE, NONE),
            ("day", 0, NONE, NONE),
            ("day", 59, NONE, NONE),
            ("share", 0, NONE, NONE),
            ("share", MOST, NONE, NONE),
            ("paper", NONE, NONE),
            ("paper", ("day", 3, NONE, NONE), ("town", 3, NONE, ("kind", "sundry", NONE, NONE))),
        ):
            self.assert_right(none, none, tree)

    def test_share_0_is_met_by_none(self):
        self.assert_right(ALL, ALL, ALL_TREE)
        self.assert_wrong(ALL, ALL, FIRST)
        self.assert_wrong(ALL, ALL, NONE)
        self.assert_wrong(ALL, ALL, ("share", 1, NONE, FIRST))
        self.assert_wrong(ALL, ALL, ("share", 0, FIRST, FIRST))
        self.assert_wrong(ALL, ALL, ("share", 0, NONE, NONE))
        self.assert_wrong(ALL, ALL, ("share", 0, FIRST, NONE))

    def test_of_each_question(self):
        self.assert_right(EATS, EATS, EATS_TREE)

    def test_other_shapes_as_right(self):
        share = ("share", 100, NONE, FIRST)
        day = ("day", 10, ("day", 3, NONE, share), NONE)
        days = ("day", 3, NONE, ("day", 10, FIRST, NONE))
        for tree in (
            ("share", 100, NONE, ("paper", NONE, ("town", 1, ("kind", "meal", days, NONE), NONE))),
            ("paper", NONE, ("kind", "bed", NONE, ("kind", "meal", ("town", 0, NONE, ("town", 1, day, NONE)), NONE))),
            ("day", 3, NONE, ("day", 10, ("paper", NONE, ("kind", "meal", ("town", 1, share, NONE), NONE)), NONE)),
            ("day", 5, EATS_TREE, EATS_TREE),
            ("share", 2500, EATS_TREE, EATS_TREE),
            ("kind", "meal", EATS_TREE, NONE),
            ("kind", "bed", NONE, EATS_TREE),
        ):
            with self.subTest(tree=tree):
                self.assert_right(EATS, EATS, tree)

    def test_kinds(self):
        book = Rulebook([Rule(kind, "refuse", kind=kind) for kind in KINDS])
        tree = ("met", 4, 4)
        for at in (3, 2, 1, 0):
            tree = ("kind", KINDS[at], ("met", at, at), tree)
        self.assert_right(book, book, ("share", 0, NONE, tree))
        tree = NONE
        for at in (4, 3, 2, 1, 0):
            tree = ("kind", KINDS[at], ("met", at, at), tree)
        # What is behind all five kinds stands for no spot.
        self.assert_right(book, book, ("share", 0, NONE, tree))
        self.assert_wrong(book, book, tree)

    def test_towns(self):
        book = Rulebook([Rule(name, "refuse", town=town) for town, name in enumerate("abcd")])
        tree = ("met", 3, 3)
        for at in (1, 2, 0):
            tree = ("town", at, ("met", at, at), tree)
        self.assert_right(book, book, ("share", 0, NONE, tree))
        self.assert_wrong(book, book, ("share", 0, NONE, ("town", 3, *tree[2:])))

    def test_day_is_parted_ahead_of_it_and_share_behind_it(self):
        book = Rulebook([Rule("a", first=5, last=5, over=7)])
        for begin, end, over, told in (
            (5, 6, 7, True),
            (4, 6, 7, False),
            (6, 6, 7, False),
            (5, 5, 7, False),
            (5, 7, 7, False),
            (5, 6, 6, False),
            (5, 6, 8, False),
        ):
            tree = ("day", begin, NONE, ("day", end, ("share", over, NONE, FIRST), NONE))
            self.assert_tree(told, book, book, tree)

    def test_paper(self):
        book = Rulebook([Rule("a", "refuse", paper=True)])
        self.assert_right(book, book, ("share", 0, NONE, ("paper", FIRST, NONE)))
        self.assert_wrong(book, book, ("share", 0, NONE, ("paper", NONE, FIRST)))
        book = Rulebook([Rule("a", "refuse", paper=False)])
        self.assert_right(book, book, ("share", 0, NONE, ("paper", NONE, FIRST)))
        self.assert_wrong(book, book, ("share", 0, NONE, ("paper", FIRST, NONE)))

    def test_the_first_rule_must_be_told(self):
        book = Rulebook([Rule("a", kind="meal"), Rule("b"), Rule("c")])
        tree = ("share", 0, NONE, ("kind", "meal", FIRST, ("met", 1, 1)))
        self.assert_right(book, book, tree)
        for one, other in itertools.product((None, 0, 1, 2), repeat=2):
            leaf = ("met", one, other)
            told = ("share", 0, NONE, ("kind", "meal", leaf, ("met", 1, 1)))
            self.assert_tree(leaf == FIRST, book, book, told)
            told = ("share", 0, NONE, ("kind", "meal", FIRST, leaf))
            self.assert_tree(leaf == ("met", 1, 1), book, book, told)

    def test_both_must_pay_alike_of_each_share(self):
        for one, other, told in (
            (Rule("a"), Rule("b", "each", 1), True),
            (Rule("a"), Rule("b", "hundredths", 100), True),
            (Rule("a"), Rule("b", "cut", MOST), True),
            (Rule("a"), Rule("b", "cut", MOST - 1), False),
            (Rule("a", over=5), Rule("b", "hundredths", 99, over=5), False),
            (Rule("a", "refuse"), Rule("b", "each", 0), True),
            (Rule("a", "cut", 0), Rule("b", "hundredths", 0), True),
            (Rule("a", "refuse"), Rule("b", "hundredths", 1), False),
        ):
            tree = ("share", one.over, NONE, FIRST)
            self.assert_tree(told, Rulebook([one]), Rulebook([other]), tree)
            self.assert_tree(told, Rulebook([other]), Rulebook([one]), tree)

    def test_alike_up_to_an_end_only(self):
        # Of 50 hundredths or 51 as much is paid up to the share 50, but of 51 it isn't.
        for over in (49, 50, 51):
            one = Rulebook([Rule("b", over=over), Rule("a", "hundredths", 50)])
            other = Rulebook([Rule("b", over=over), Rule("a", "hundredths", 51)])
            tree = ("share", 0, NONE, ("share", over, ("met", 1, 1), FIRST))
            self.assert_tree(over <= 50, one, other, tree)

    def test_none_beside_a_rule_that_pays_nothing(self):
        few = Rulebook([Rule("a", "refuse", over=1), Rule("b", "hundredths", 99)])
        tree = ("share", 0, NONE, ("share", 1, ("met", None, 1), ("met", None, 0)))
        self.assert_right(Rulebook(), few, tree)
        self.assert_wrong(few, Rulebook(), tree)
        self.assert_wrong(Rulebook(), few, NONE)
        self.assert_wrong(Rulebook(), few, ("share", 0, NONE, ("share", 2, ("met", None, 1), ("met", None, 0))))


class Places(TreesTest):
    """Point 51, what a leaf tells."""

    def test_places_beyond_the_book(self):
        for wrong in (-1, 1, 2, 8, True, False, "0", "", (), [], [0], {}, (0,), 10 ** 29, -10 ** 29, EATS, ALL_TREE):
            for leaf in (("met", wrong, 0), ("met", 0, wrong), ("met", wrong, wrong), ("met", None, wrong)):
                with self.subTest(leaf=leaf):
                    self.assert_wrong(ALL, ALL, ("share", 0, NONE, leaf))
                    self.assert_wrong(ALL, ALL, ("share", 0, leaf, FIRST))

    def test_leaves_that_stand_for_no_spot(self):
        book = Rulebook([Rule("a", "refuse"), Rule("b", "cut", 7)])
        for one, other, told in (
            *((one, other, True) for one, other in itertools.product((None, 0, 1), repeat=2)),
            *((wrong, 0, False) for wrong in (-1, 2, True, False, "0", (), [], 10 ** 29)),
            *((None, wrong, False) for wrong in (-1, 2, True, False, "0", (), [], 10 ** 29)),
        ):
            leaf = ("met", one, other)
            right = ("share", 0, NONE, FIRST)
            for tree in (
                ("day", 0, leaf, right),
                ("share", MOST, right, leaf),
                ("share", 0, ("share", 0, NONE, leaf), FIRST),
                ("share", 0, ("share", 5, NONE, leaf), FIRST),
                ("day", 5, ("day", 5, right, leaf), right),
                ("day", 5, ("day", 6, right, leaf), right),
                ("day", 5, right, ("day", 5, leaf, right)),
                ("day", 5, right, ("day", 2, leaf, right)),
                ("kind", "bed", ("kind", "bed", right, leaf), right),
                ("kind", "bed", ("kind", "fee", leaf, right), right),
                ("kind", "bed", right, ("kind", "bed", leaf, right)),
                ("town", 2, ("town", 2, right, leaf), right),
                ("town", 2, ("town", 1, leaf, right), right),
                ("town", 2, right, ("town", 2, leaf, right)),
                ("paper", ("paper", right, leaf), right),
                ("paper", right, ("paper", leaf, right)),
                ("paper", right, ("paper", ("day", 7, leaf, leaf), right)),
            ):
                with self.subTest(tree=tree):
                    self.assert_tree(told, book, book, tree)

    def test_the_places_are_asked_of_their_own_books(self):
        one, other = Rulebook([Rule("a", "refuse")]), Rulebook()
        self.assert_right(one, other, ("share", 0, NONE, ("met", 0, None)))
        self.assert_wrong(one, other, ("share", 0, NONE, ("met", None, 0)))
        self.assert_wrong(other, one, ("share", 0, NONE, ("met", 0, None)))
        self.assert_right(one, other, ("day", 0, ("met", 0, None), ("share", 0, NONE, ("met", 0, None))))
        self.assert_wrong(one, other, ("day", 0, ("met", None, 0), ("share", 0, NONE, ("met", 0, None))))

    def test_what_stands_for_no_spot_must_be_a_tree(self):
        for thing in things():
            with self.subTest(thing=thing):
                self.assert_wrong(ALL, ALL, ("day", 0, thing, ALL_TREE))
                self.assert_wrong(ALL, ALL, ("paper", ALL_TREE, ("paper", thing, ALL_TREE)))


class Otherwise(TreesTest):
    """Points 51 and 52, what is no tree that is right."""

    def test_things_of_whatever_kind(self):
        for thing in things():
            with self.subTest(thing=thing):
                self.assert_wrong(ALL, ALL, thing)
                self.assert_wrong(Rulebook(), Rulebook(), thing)
                self.assertIs(is_tree(one=ALL, other=ALL, thing=thing), False)

    def test_things_within_a_tree(self):
        for thing in things():
            trees = [
                ("met", thing, 7),
                ("share", 0, thing, NONE),
                ("share", 0, NONE, thing),
                ("paper", thing, NONE),
                ("paper", NONE, thing),
                ("met", thing, NONE),
                (thing, 60, NONE, NONE),
                (thing, NONE, NONE, NONE),
                (thing, None, NONE),
            ]
            for tree in trees:
                with self.subTest(tree=tree):
                    if tree != ("share", 60, NONE, NONE):
                        self.assert_wrong(Rulebook(), Rulebook(), tree)

    def test_what_a_question_asks(self):
        good = {"kind": KINDS, "town": (0, 1, 2, 3), "day": (0, 1, 58, 59), "share": (0, 1, MOST - 1, MOST)}
        wrong = {"kind": ("Bed", "toll", "", "x"), "town": (-1, 4), "day": (-1, 60), "share": (-1, MOST + 1)}
        for word in good:
            for worth in good[word]:
                self.assert_right(Rulebook(), Rulebook(), (word, worth, NONE, NONE))
            for worth in (*wrong[word], True, False, *far_numbers(), *things()):
                if worth not in good[word] or type(worth) is bool:
                    with self.subTest(word=word, worth=worth):
                        self.assert_wrong(Rulebook(), Rulebook(), (word, worth, NONE, NONE))

    def test_forms(self):
        none = Rulebook()
        for tree in (
            ("met",),
            ("met", None),
            ("met", None, None, None),
            ("met", NONE, NONE),
            ("paper",),
            ("paper", NONE),
            ("paper", True, NONE, NONE),
            ("paper", NONE, NONE, NONE),
            ("kind", "bed"),
            ("kind", "bed", NONE),
            ("kind", NONE, NONE),
            ("kind", "bed", NONE, NONE, NONE),
            ("kind", NONE, "bed", NONE),
            ("town", 0, NONE),
            ("day", NONE, NONE),
            ("share", 0, NONE, NONE, NONE),
            ("upto", 0, NONE, NONE),
            ("Paper", NONE, NONE),
            ("met ", None, None),
            (b"met", None, None),
            ["met", None, None],
            ["paper", NONE, NONE],
            ("paper", list(NONE), NONE),
            ("paper", NONE, list(NONE)),
            (("paper",), NONE, NONE),
            (NONE,),
            (),
        ):
            with self.subTest(tree=tree):
                self.assert_wrong(none, none, tree)

    def test_one_thing_otherwise_anywhere(self):
        halved = Rulebook(halves(but(EATS.rules()[0], kind=None, first=3), 5))
        whole = Rulebook([but(EATS.rules()[0], kind=None, first=3)])
        for one, other, tree in (
            (EATS, EATS, EATS_TREE),
            (ALL, Rulebook([Rule("a", "each", 1)]), ALL_TREE),
            (KIND, KIND, tree_of(KIND, KIND)),
            (halved, whole, tree_of(halved, whole)),
        ):
            self.assert_right(one, other, tree)
            right = 0
            for way in places(tree):
                for thing in many_changes(tree, way):
                    new = changed(tree, way, thing)
                    told = is_tree(one, other, new)
                    with self.subTest(new=new):
                        self.assertIs(told, self.by_hand(one, other, new))
                    right += told
            self.assertGreater(right, 0)

    def by_hand(self, one, other, thing):
        ones, others = one.rules(), other.rules()
        if not by_hand.has_form(thing, ones, others):
            return False
        return by_hand.is_right(thing, ones, others, by_hand.telling_spots(ones + others, [thing]))

    def test_drawn_trees_with_one_thing_otherwise(self):
        chance = random.Random(51)
        wrong = 0
        for _ in range(60):
            one = drawn_book(chance, chance.randrange(1, 4), 0.7, (0, 1, 5))
            other = altered(chance, one)
            tree = tree_of(one, other)
            if tree is not None:
                self.assertIs(self.by_hand(one, other, tree), True)
                for _ in range(15):
                    way = chance.choice(places(tree))
                    new = changed(tree, way, chance.choice(many_changes(tree, way)))
                    told = is_tree(one, other, new)
                    with self.subTest(new=new, one=one, other=other):
                        self.assertIs(told, self.by_hand(one, other, new))
                    wrong += not told
        self.assertGreater(wrong, 100)

    def test_a_tree_for_the_books_exchanged(self):
        one = Rulebook([Rule("a", "refuse"), Rule("b", "cut", 5)])
        other = Rulebook([Rule("a", "each", 0, "meal"), Rule("b", "refuse")])
        tree = self.assert_tree_told(one, other)
        self.assert_wrong(other, one, tree)
        self.assert_right(other, one, turned(tree))
        self.assert_wrong(one, other, turned(tree))

    def test_books_that_part_have_no_tree(self):
        other = Rulebook([Rule("a", "cut", 5)])
        for tree in (NONE, FIRST, ALL_TREE, ("share", 5, ALL_TREE, FIRST), ("share", 0, NONE, NONE)):
            self.assert_wrong(ALL, other, tree)
            self.assert_wrong(other, ALL, tree)
        self.assertIsNone(tree_of(ALL, other))

    def test_what_is_handed_in_stays(self):
        one, thing = copy.deepcopy(EATS), ["kind", "meal", [EATS_TREE, {"a": [1]}], NONE]
        for _ in range(3):
            self.assert_wrong(one, one, thing)
            self.assert_wrong(one, one, tuple(thing))
            self.assert_right(one, one, EATS_TREE)
        self.assertEqual(thing, ["kind", "meal", [EATS_TREE, {"a": [1]}], NONE])
        self.assertEqual(one, EATS)


def turned(tree):
    """Tell the tree with the places of both books exchanged at each leaf."""
    if tree[0] == "met":
        return ("met", tree[2], tree[1])
    return (*tree[:-2], turned(tree[-2]), turned(tree[-1]))


class Told(TreesTest):
    """Point 52, the tree that is told."""

    def test_as_it_stands(self):
        self.assertEqual(tree_of(Rulebook(), Rulebook()), NONE)
        self.assertEqual(tree_of(ALL, ALL), ALL_TREE)
        self.assertEqual(tree_of(one=ALL, other=ALL), tree_of(other=ALL, one=ALL))

    def test_each_question(self):
        for parts in (
            {"kind": "fee"},
            {"town": 0},
            {"first": 59},
            {"last": 0},
            {"first": 4, "last": 4},
            {"over": MOST - 1},
            {"over": MOST},
            {"paper": True},
            {"paper": False},
            {"kind": "sundry", "town": 3, "first": 1, "last": 58, "over": 10 ** 6, "paper": False},
        ):
            book = Rulebook([Rule("a", "cut", 5, **parts)])
            tree = self.assert_tree_told(book, book)
            rules = book.rules()
            self.assertTrue(by_hand.is_right(tree, rules, rules, by_hand.telling_spots(rules, [tree])))

    def test_drawn_books(self):
        chance = random.Random(52)
        told = 0
        for many in range(9):
            for _ in range(40):
                one = drawn_book(chance, many)
                other = altered(chance, one)
                if first_apart(one, other) is None:
                    self.assert_tree_told(one, other)
                    self.assert_right(other, one, turned(tree_of(one, other)))
                    told += 1
                else:
                    self.assertIsNone(tree_of(one, other))
                    self.assertIsNone(tree_of(other, one))
        self.assertGreater(told, 100)

    def test_by_hand(self):
        chance = random.Random(53)
        for many in range(9):
            for _ in range(3):
                one = drawn_book(chance, many, 0.6, (0, 1, 5, 100))
                tree = self.assert_tree_told(one, one)
                rules = one.rules()
                self.assertTrue(by_hand.is_right(tree, rules, rules, by_hand.telling_spots(rules, [])))

    def test_eight_rules_each_of_many_ends(self):
        # Whatever the rules are, they pay nothing: so any two such books pay alike.
        chance = random.Random(54)
        for free in (0.0, 0.3, 0.6, 1.0):
            for _ in range(5):
                books = []
                for _ in range(2):
                    ends = sorted(chance.sample(range(60), 16))
                    rules = drawn_book(chance, 8, free).rules()
                    books.append(Rulebook([
                        but(rule, deed="refuse", bound=0, first=ends[at], last=ends[15 - at], over=1000 * (8 - at) + at)
                        for at, rule in enumerate(rules)
                    ]))
                self.assert_tree_told(*books)

    def test_as_deep_as_can_be(self):
        # Each of the sixteen rules has two days and an over that no other one has.
        kinds = [Rule(name, "refuse", 0, kind) for name, kind in zip("abcd", KINDS)]
        towns = [Rule(name, "refuse", 0, town=town) for name, town in zip("efg", range(3))]
        narrow = [Rule("h", "refuse", paper=True)]
        one = [but(rule, first=at, last=59 - at, over=100 - at) for at, rule in enumerate(kinds + towns + narrow)]
        wide = [Rule(name, "refuse", first=8 + at, last=51 - at, over=90 - at) for at, name in enumerate("ijklmnop")]
        for rules in (one, one[::-1]):
            for others in (wide, wide[::-1], one[::-1]):
                self.assert_tree_told(Rulebook(rules), Rulebook(others))
                self.assert_tree_told(Rulebook(others), Rulebook(rules))

    def test_the_books_stay_and_the_same_again(self):
        one, other = copy.deepcopy(EATS), Rulebook(halves(EATS.rules()[0], 5))
        kept = copy.deepcopy(other)
        tree = tree_of(one, other)
        for _ in range(3):
            self.assertEqual(tree_of(one, other), tree)
            self.assert_right(one, other, tree)
            self.assertEqual((one, other), (EATS, kept))


class Deep(TreesTest):
    """Points 2 and 52: a tree that is handed in may be deeper and larger than other things."""

    def test_trees_within_trees(self):
        tree = tree_of(EATS, EATS)
        for leaf in (FIRST, NONE, NONE):
            tree = replaced(tree, leaf, tree)
        self.assertGreater(len(by_hand.nodes(tree)), 5000)
        # Within a tree for all spots there stand such trees for some: as right.
        self.assert_right(EATS, EATS, tree)
        self.assert_wrong(EATS, EATS, (*tree[:-1], ("paper", tree, ("met", 0, 0))))

    def test_deep_trees(self):
        for head in (("day", 0), ("day", 7), ("share", 0), ("kind", "bed"), ("town", 3), ("paper",)):
            for deep in (100, 20000):
                right, wrong = ALL_TREE, ("met", 0, 1)
                for at in range(deep):
                    right = (*head, right, ALL_TREE) if at % 2 else (*head, ALL_TREE, right)
                    wrong = (*head, wrong, ALL_TREE) if at % 2 else (*head, ALL_TREE, wrong)
                self.assertTrue(is_tree(ALL, ALL, right) is True)
                self.assertTrue(is_tree(ALL, ALL, wrong) is False)

    def test_deep_things_that_are_no_trees(self):
        for thing in (deep_list(20000), deep_tuple(20000)):
            self.assertTrue(is_tree(ALL, ALL, thing) is False)
            for tree in (
                ("met", thing, 0),
                ("met", 0, thing),
                ("share", thing, NONE, FIRST),
                ("share", 0, thing, FIRST),
                (thing, 0, NONE, FIRST),
                (thing, NONE, FIRST),
                ("day", 0, thing, ALL_TREE),
            ):
                self.assertTrue(is_tree(ALL, ALL, tree) is False)

    def test_large_trees(self):
        tree = ALL_TREE
        for at in range(12):
            tree = ("day", at, tree, tree) if at % 2 else ("paper", tree, tree)
        self.assertGreater(len(by_hand.nodes(tree)), 10000)
        self.assert_right(ALL, ALL, tree)
        self.assert_wrong(ALL, ALL, ("town", 1, tree, ("day", 0, tree, ("day", 0, FIRST, FIRST))))


def replaced(tree, leaf, new):
    """Tell the tree with another one wherever a leaf stands."""
    if tree == leaf:
        return new
    if tree[0] == "met":
        return tree
    return (*tree[:-2], replaced(tree[-2], leaf, new), replaced(tree[-1], leaf, new))


if __name__ == "__main__":
    unittest.main()
