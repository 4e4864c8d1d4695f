import copy
import inspect
import itertools
import unittest

from roadpence import rules
from roadpence.errors import NoRule, NoShare, NoSpot
from roadpence.rules import Rule
from tests import by_hand
from tests.likeness import LikenessTest
from tests.samples import far_numbers, lists, no_kinds, no_numbers, no_truths, objects, texts, tuples, dicts, truths

MOST = 10 ** 12
PARTS = ("name", "deed", "bound", "kind", "town", "first", "last", "over", "paper")
PLAIN = {
    "name": "eats",
    "deed": "let",
    "bound": 0,
    "kind": None,
    "town": None,
    "first": 0,
    "last": 59,
    "over": 0,
    "paper": None,
}
OTHER = {
    "name": "b",
    "deed": "cut",
    "bound": 2500,
    "kind": "meal",
    "town": 1,
    "first": 3,
    "last": 9,
    "over": 100,
    "paper": False,
}
MOST_BOUNDS = {"let": 0, "cut": MOST, "each": 1000, "hundredths": 100, "refuse": 0}
ALLOWED = {
    "name": ("a", "z", "eats", "abcdefgh", "stuvwxyz", "none", "twin"),
    "deed": ("cut",),
    "bound": (0,),
    "kind": (None, "bed", "fee", "meal", "ride", "sundry"),
    "town": (None, 0, 1, 2, 3),
    "first": (0, 1, 8, 9),
    "last": (3, 4, 9, 58, 59),
    "over": (0, 1, 100, 10 ** 6, MOST - 1, MOST),
    "paper": (None, False, True),
}


def no_texts():
    """Tell a thing of each kind but a text."""
    return [None, 0, 1, *far_numbers(), *truths(), *lists(), *tuples(), *dicts(), *objects()]


def beside_none(things):
    return [thing for thing in things if thing is not None]


REFUSED = {
    "name": [
        *no_texts(),
        *("", "abcdefghi", "x" * 2000, "Eats", "eatS", "EATS", "eats1", "1", "ea ts", " eats", "eats ", "eats\n"),
        *("\neats", "\n", "ea_ts", "_", "ea-ts", "eats.", "`", "{", "@", "[", "a\tb", ("eats",), ["eats"]),
    ],
    "deed": [*no_texts(), *texts(), "Let", "let ", "lets", "cu", "all", "hundredth", "refuse\n", ("let",), ["cut"]],
    "bound": [-1, *far_numbers(), *no_numbers()],
    "kind": beside_none(no_kinds()),
    "town": [-1, 4, *far_numbers(), *beside_none(no_numbers())],
    "first": [-1, 60, *far_numbers(), *no_numbers()],
    "last": [-1, 60, *far_numbers(), *no_numbers()],
    "over": [-1, MOST + 1, *far_numbers(), *no_numbers()],
    "paper": [2, -1, *beside_none(no_truths())],
}
WRONG = {
    "name": "Eats",
    "deed": "pay",
    "bound": -1,
    "kind": "toll",
    "town": 4,
    "first": 60,
    "last": 60,
    "over": -1,
    "paper": 1,
}


class RuleTest(unittest.TestCase):
    def assert_values(self, rule, values):
        told = {part: getattr(rule, part) for part in PARTS}
        self.assertEqual(told, values)
        # True equals 1 to Python, so the kinds of the values are compared, too.
        self.assertEqual([type(told[part]) for part in PARTS], [type(values[part]) for part in PARTS])

    def assert_refused(self, part, *args, **named):
        with self.assertRaises(NoRule) as caught:
            Rule(*args, **named)
        self.assertEqual(caught.exception.part, part)
        self.assertIs(type(caught.exception), NoRule)


class Interface(unittest.TestCase):
    def test_signatures(self):
        told = "(name, deed='let', bound=0, kind=None, town=None, first=0, last=59, over=0, paper=None)"
        self.assertEqual(str(inspect.signature(Rule)), told)
        self.assertEqual(str(inspect.signature(Rule.meets)), "(self, spot)")
        self.assertEqual(str(inspect.signature(Rule.pays)), "(self, share)")

    def test_defined_in_this_file(self):
        self.assertEqual(Rule.__module__, rules.__name__)
        for name in ("meets", "pays", "__eq__", "__repr__"):
            self.assertIn(name, vars(Rule))


class Making(RuleTest):
    """Point 30, what is a rule."""

    def test_by_places(self):
        self.assert_values(Rule("b", "cut", 2500, "meal", 1, 3, 9, 100, False), OTHER)

    def test_by_names(self):
        self.assert_values(Rule(**OTHER), OTHER)
        self.assert_values(Rule(**{part: OTHER[part] for part in reversed(PARTS)}), OTHER)

    def test_by_places_and_names(self):
        self.assert_values(Rule("b", "cut", 2500, paper=False, over=100, last=9, first=3, town=1, kind="meal"), OTHER)

    def test_parts_left_out(self):
        self.assert_values(Rule("eats"), PLAIN)
        self.assert_values(Rule(name="eats"), PLAIN)
        for part in PARTS[1:]:
            with self.subTest(part=part):
                named = {**OTHER, "bound": 0}
                del named[part]
                self.assert_values(Rule(**named), {**OTHER, "bound": 0, part: PLAIN[part]})

    def test_the_name_cannot_be_left_out(self):
        with self.assertRaises(TypeError):
            Rule()

    def test_each_part_at_its_bounds(self):
        for base in (PLAIN, OTHER):
            for part in PARTS:
                for value in ALLOWED[part]:
                    named = {**base, part: value}
                    with self.subTest(named=named):
                        self.assert_values(Rule(**named), named)
                        self.assert_values(Rule(*named.values()), named)

    def test_each_letter(self):
        for letter in "abcdefghijklmnopqrstuvwxyz":
            for many in range(1, 9):
                self.assertEqual(Rule(letter * many).name, letter * many)

    def test_each_deed_with_its_bounds(self):
        for deed, most in MOST_BOUNDS.items():
            for bound in {0, most // 2, most}:
                with self.subTest(deed=deed, bound=bound):
                    self.assert_values(Rule("eats", deed, bound), {**PLAIN, "deed": deed, "bound": bound})

    def test_days(self):
        for first, last in ((0, 0), (59, 59), (0, 59), (30, 30), (30, 31), (58, 59), (0, 1)):
            self.assert_values(Rule("eats", first=first, last=last), {**PLAIN, "first": first, "last": last})

    def test_the_same_again(self):
        for _ in range(3):
            rule = Rule(**OTHER)
            self.assert_values(rule, OTHER)
            self.assert_values(rule, OTHER)


class Refusing(RuleTest):
    """Point 30, what is none."""

    def test_each_part_otherwise(self):
        for base in (PLAIN, OTHER):
            for part in PARTS:
                for value in REFUSED[part]:
                    with self.subTest(part=part, value=value):
                        named = {**base, part: value}
                        self.assert_refused(part, **named)
                        self.assert_refused(part, *named.values())

    def test_bounds_by_their_deeds(self):
        for deed, most in MOST_BOUNDS.items():
            for bound in (-1, most + 1, most + 2, *far_numbers(), *no_numbers()):
                with self.subTest(deed=deed, bound=bound):
                    self.assert_refused("bound", "eats", deed, bound)

    def test_a_bound_of_another_deed(self):
        for deed, bound in (("let", 1), ("refuse", 1), ("each", 1001), ("hundredths", 101), ("cut", MOST + 1)):
            self.assert_refused("bound", "eats", deed, bound)
        self.assert_refused("bound", "eats", bound=1)

    def test_last_less_than_first(self):
        for first, last in ((1, 0), (59, 58), (59, 0), (30, 29)):
            self.assert_refused("last", "eats", first=first, last=last)
        self.assert_refused("first", "eats", first=60, last=59)
        self.assert_refused("first", "eats", first=-1, last=-2)

    def test_the_first_of_several(self):
        for marks in itertools.product((True, False), repeat=len(PARTS)):
            named = {part: WRONG[part] if mark else OTHER[part] for part, mark in zip(PARTS, marks)}
            if True in marks:
                with self.subTest(named=named):
                    self.assert_refused(PARTS[marks.index(True)], **named)

    def test_the_first_of_several_of_other_kinds(self):
        for thing in ([], {}, (), 10 ** 29, Rule("a")):
            for at, part in enumerate(PARTS):
                values = [OTHER[name] for name in PARTS[:at]] + [thing] * (len(PARTS) - at)
                with self.subTest(part=part, thing=thing):
                    self.assert_refused(part, *values)

    def test_a_deed_that_is_none_ahead_of_its_bound(self):
        for bound in (0, 1, -1, None, []):
            self.assert_refused("deed", "eats", "pay", bound)

    def test_what_is_refused_is_not_changed(self):
        for thing in ([1, [2]], {"a": [1]}, ([1],)):
            kept = copy.deepcopy(thing)
            for part in PARTS:
                self.assert_refused(part, **{**PLAIN, part: thing})
            self.assertEqual(thing, kept)

    def test_the_same_again(self):
        for _ in range(3):
            self.assert_refused("last", "eats", first=3, last=2)


class Equality(LikenessTest):
    """Point 31, == and !=."""

    def test_alike(self):
        self.assert_alike(Rule("eats"), Rule("eats", "let", 0, None, None, 0, 59, 0, None))
        self.assert_alike(Rule(**OTHER), Rule(**OTHER))
        rule = Rule(**OTHER)
        self.assert_alike(rule, rule)
        self.assert_alike(rule, copy.deepcopy(rule))

    def test_unlike_in_each_one(self):
        for base in (PLAIN, OTHER):
            for part in PARTS:
                for value in ALLOWED[part]:
                    if value != base[part]:
                        with self.subTest(part=part, value=value):
                            self.assert_unlike(Rule(**base), Rule(**{**base, part: value}))

    def test_deeds_and_bounds(self):
        told = [Rule("a", deed, bound) for deed, most in MOST_BOUNDS.items() for bound in sorted({0, most // 2, most})]
        for one, other in itertools.combinations(told, 2):
            self.assert_unlike(one, other)

    def test_deeds_that_pay_alike_are_unlike(self):
        alike = [Rule("a"), Rule("a", "each", 1), Rule("a", "hundredths", 100), Rule("a", "cut", MOST)]
        none = [Rule("a", "refuse"), Rule("a", "each", 0), Rule("a", "hundredths", 0), Rule("a", "cut", 0)]
        for rows in (alike, none):
            for one, other in itertools.combinations(rows, 2):
                self.assert_unlike(one, other)

    def test_nought_false_and_none(self):
        self.assert_unlike(Rule("a", town=0), Rule("a"))
        self.assert_unlike(Rule("a", paper=False), Rule("a"))
        self.assert_unlike(Rule("a", town=0), Rule("a", paper=False))
        self.assert_unlike(Rule("a", town=0, paper=False), Rule("a", town=0))
        self.assert_unlike(Rule("a", town=1), Rule("a", paper=True))

    def test_in_a_list(self):
        rows = [Rule(**PLAIN), Rule(**OTHER)]
        self.assertIn(Rule("eats"), rows)
        self.assertIn(Rule(**OTHER), rows)
        self.assertEqual(rows.index(Rule(**OTHER)), 1)
        self.assertNotIn(Rule("eat"), rows)
        self.assertNotIn(Rule(**{**OTHER, "paper": None}), rows)

    def test_never_a_thing_of_another_kind(self):
        rule = Rule("eats")
        things = [thing for thing in (*no_kinds(), *no_numbers(), *far_numbers()) if not isinstance(thing, Rule)]
        things += [0, "eats", repr(rule), tuple(PLAIN.values()), list(PLAIN.values()), dict(PLAIN), [rule], (rule,)]
        for thing in things:
            with self.subTest(thing=thing):
                self.assert_unlike(rule, thing)
                self.assertNotIn(rule, [thing])


class Repr(unittest.TestCase):
    """Point 31, the repr."""

    PIECES = {
        "deed": "deed='cut'",
        "bound": "bound=2500",
        "kind": "kind='meal'",
        "town": "town=1",
        "first": "first=3",
        "last": "last=9",
        "over": "over=100",
        "paper": "paper=False",
    }

    def test_none_told(self):
        self.assertEqual(repr(Rule("eats")), "Rule('eats')")
        self.assertEqual(repr(Rule("a", "let", 0, None, None, 0, 59, 0, None)), "Rule('a')")

    def test_each_one(self):
        for named, told in (
            ({"deed": "cut"}, "Rule('eats', deed='cut')"),
            ({"deed": "refuse"}, "Rule('eats', deed='refuse')"),
            ({"deed": "each"}, "Rule('eats', deed='each')"),
            ({"deed": "hundredths"}, "Rule('eats', deed='hundredths')"),
            ({"kind": "bed"}, "Rule('eats', kind='bed')"),
            ({"town": 0}, "Rule('eats', town=0)"),
            ({"town": 3}, "Rule('eats', town=3)"),
            ({"first": 1}, "Rule('eats', first=1)"),
            ({"first": 59}, "Rule('eats', first=59)"),
            ({"last": 58}, "Rule('eats', last=58)"),
            ({"last": 0}, "Rule('eats', last=0)"),
            ({"over": 1}, "Rule('eats', over=1)"),
            ({"over": MOST}, "Rule('eats', over=1000000000000)"),
            ({"paper": False}, "Rule('eats', paper=False)"),
            ({"paper": True}, "Rule('eats', paper=True)"),
        ):
            self.assertEqual(repr(Rule("eats", **named)), told)

    def test_several_in_their_order(self):
        for many in range(9):
            for parts in itertools.combinations(self.PIECES, many):
                if "bound" in parts and "deed" not in parts:
                    continue
                rule = Rule("eats", **{part: OTHER[part] for part in parts})
                told = ", ".join(["Rule('eats'", *[self.PIECES[part] for part in parts]]) + ")"
                self.assertEqual(repr(rule), told)

    def test_all(self):
        told = "Rule('b', deed='cut', bound=2500, kind='meal', town=1, first=3, last=9, over=100, paper=False)"
        self.assertEqual(repr(Rule(**OTHER)), told)
        self.assertEqual(repr([Rule(**OTHER)]), f"[{told}]")
        self.assertEqual(eval(told), Rule(**OTHER))


class Meets(RuleTest):
    """Point 32, which spots are met."""

    def assert_meets(self, told, rule, spot):
        self.assertIs(rule.meets(spot), told)
        self.assertIs(rule.meets(spot=spot), told)

    def test_each_thing_of_the_spot(self):
        rule = Rule("a", "cut", 5, "meal", 1, 3, 9, 100, False)
        self.assert_meets(True, rule, ("meal", 1, False, 3, 101))
        for kind in by_hand.KINDS:
            self.assert_meets(kind == "meal", rule, (kind, 1, False, 5, 101))
        for town in by_hand.TOWNS:
            self.assert_meets(town == 1, rule, ("meal", town, False, 5, 101))
        for paper in (False, True):
            self.assert_meets(not paper, rule, ("meal", 1, paper, 5, 101))
        for day in range(60):
            self.assert_meets(3 <= day <= 9, rule, ("meal", 1, False, day, 101))
        for share, told in ((0, False), (99, False), (100, False), (101, True), (102, True), (MOST, True)):
            self.assert_meets(told, rule, ("meal", 1, False, 9, share))

    def test_town_0_and_a_paper(self):
        for town in by_hand.TOWNS:
            self.assert_meets(town == 0, Rule("a", town=0), ("bed", town, True, 0, 1))
        for paper in (False, True):
            self.assert_meets(paper, Rule("a", paper=True), ("bed", 0, paper, 0, 1))

    def test_whichever(self):
        for spot in itertools.product(by_hand.KINDS, by_hand.TOWNS, (False, True), (0, 30, 59), (0, 1, MOST)):
            self.assert_meets(spot[4] > 0, Rule("a", "refuse"), spot)

    def test_ends(self):
        for over in (0, 1, 50, MOST - 1):
            rule = Rule("a", over=over)
            self.assert_meets(False, rule, ("bed", 0, True, 0, over))
            self.assert_meets(True, rule, ("bed", 0, True, 0, over + 1))
            self.assert_meets(True, rule, ("bed", 0, True, 0, MOST))
        self.assert_meets(False, Rule("a", over=MOST), ("bed", 0, True, 0, MOST))
        for day in (0, 1, 30, 58, 59):
            rule = Rule("a", first=day, last=day)
            for near in {max(day - 1, 0), day, min(day + 1, 59)}:
                self.assert_meets(near == day, rule, ("bed", 0, True, near, 1))

    def test_no_spot(self):
        good = ("meal", 1, False, 5, 101)
        wrong = (
            beside_none(no_kinds()) + [None],
            [-1, 4, *far_numbers(), *no_numbers()],
            [2, -1, *no_truths()],
            [-1, 60, *far_numbers(), *no_numbers()],
            [-1, MOST + 1, *far_numbers(), *no_numbers()],
        )
        for rule in (Rule("a"), Rule(**OTHER), Rule("a", "refuse", kind="bed", over=MOST)):
            for at, things in enumerate(wrong):
                for thing in things:
                    spot = (*good[:at], thing, *good[at + 1:])
                    with self.subTest(spot=spot), self.assertRaises(NoSpot):
                        rule.meets(spot)

    def test_no_spot_of_another_form(self):
        good = ("meal", 1, False, 5, 101)
        forms = [good[:4], (*good, 1), (*good, None), good[1:], list(good), dict(enumerate(good)), (good,), [good]]
        for thing in (*forms, None, 0, 1, *truths(), *far_numbers(), *texts(), *lists(), *tuples(), *objects()):
            with self.subTest(thing=thing), self.assertRaises(NoSpot):
                Rule("a").meets(thing)

    def test_the_rule_and_the_spot_stay(self):
        rule, spot = Rule(**OTHER), ["meal", 1, False, 5, 101]
        for _ in range(3):
            with self.assertRaises(NoSpot):
                rule.meets(spot)
            self.assert_meets(True, rule, tuple(spot))
            self.assertEqual(spot, ["meal", 1, False, 5, 101])
            self.assert_values(rule, OTHER)


class Pays(RuleTest):
    """Points 30 and 32, what is paid of a share."""

    def assert_pays(self, told, deed, bound, share):
        # What it meets plays no part in what it pays.
        for rule in (Rule("a", deed, bound), Rule("a", deed, bound, "meal", 1, 3, 9, MOST, False)):
            paid = rule.pays(share)
            self.assertEqual(paid, told)
            self.assertIs(type(paid), int)
            self.assertEqual(rule.pays(share=share), told)

    def test_let_and_refuse(self):
        for share in (0, 1, 2, 99, 10 ** 6, MOST - 1, MOST):
            self.assert_pays(share, "let", 0, share)
            self.assert_pays(0, "refuse", 0, share)

    def test_cut(self):
        for bound in (0, 1, 2, 2500, MOST - 1, MOST):
            for share in {0, 1, max(bound - 1, 0), bound, min(bound + 1, MOST), MOST}:
                self.assert_pays(min(bound, share), "cut", bound, share)

    def test_each(self):
        for bound in (0, 1, 2, 999, 1000):
            for share in (0, 1, 2, 12345, MOST - 1, MOST):
                self.assert_pays(bound * share, "each", bound, share)

    def test_hundredths(self):
        for bound, share, told in (
            (0, MOST, 0),
            (1, 0, 0),
            (1, 1, 0),
            (1, 99, 0),
            (1, 100, 1),
            (1, 101, 1),
            (1, 199, 1),
            (1, 200, 2),
            (50, 1, 0),
            (50, 2, 1),
            (50, 3, 1),
            (33, 100, 33),
            (33, 3, 0),
            (33, 4, 1),
            (99, 1, 0),
            (99, 2, 1),
            (99, 100, 99),
            (99, 101, 99),
            (99, 102, 100),
            (100, 1, 1),
            (100, MOST, MOST),
            (99, MOST, 990000000000),
            (99, MOST - 1, 989999999999),
            (1, MOST, 10 ** 10),
            (1, MOST - 1, 10 ** 10 - 1),
        ):
            with self.subTest(bound=bound, share=share):
                self.assert_pays(told, "hundredths", bound, share)

    def test_many_by_hand(self):
        shares = [*range(0, 130), 999, 10 ** 6 + 1, MOST - 7, MOST]
        for deed, bounds in (("hundredths", range(101)), ("each", range(0, 1001, 77)), ("cut", range(0, 140, 13))):
            for bound in bounds:
                rule = Rule("a", deed, bound)
                for share in shares:
                    self.assertEqual(rule.pays(share), by_hand.pays(rule, share))

    def test_no_share(self):
        for deed, bound in (("let", 0), ("cut", 5), ("each", 0), ("hundredths", 1), ("refuse", 0)):
            rule = Rule("a", deed, bound)
            for thing in (-1, MOST + 1, *far_numbers(), *no_numbers()):
                with self.subTest(deed=deed, thing=thing), self.assertRaises(NoShare):
                    rule.pays(thing)

    def test_the_rule_stays_and_the_same_again(self):
        rule = Rule(**OTHER)
        for _ in range(3):
            self.assertEqual([rule.pays(share) for share in (0, 2499, 2500, 2501)], [0, 2499, 2500, 2500])
            with self.assertRaises(NoShare):
                rule.pays(None)
            self.assert_values(rule, OTHER)


if __name__ == "__main__":
    unittest.main()
