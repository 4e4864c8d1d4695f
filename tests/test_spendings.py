import copy
import inspect
import itertools
import unittest

from roadpence import spendings
from roadpence.errors import NoHeads, NoSpending, PenceError
from roadpence.spendings import Spending, are_twins
from tests.likeness import LikenessTest
from tests.samples import far_numbers, no_kinds, no_numbers, no_truths

PARTS = ("kind", "amount", "day", "paper", "heads", "money")
PLAIN = {"kind": "meal", "amount": 1250, "day": 0, "paper": True, "heads": 1, "money": 0}
OTHER = {"kind": "ride", "amount": 7, "day": 3, "paper": False, "heads": 2, "money": 1}
ALLOWED = {
    "kind": ("bed", "fee", "meal", "ride", "sundry"),
    "amount": (1, 2, 999999, 10 ** 6),
    "day": (0, 1, 58, 59),
    "paper": (True, False),
    "heads": (1, 2, 3, 4, 5, 6),
    "money": (0, 1, 2, 3),
}
# Heads 0 are refused by another error, and have tests of their own.
REFUSED = {
    "kind": no_kinds(),
    "amount": [0, -1, 10 ** 6 + 1, *far_numbers(), *no_numbers()],
    "day": [-1, 60, *far_numbers(), *no_numbers()],
    "paper": [2, -1, *no_truths()],
    "heads": [-1, 7, *far_numbers(), *no_numbers()],
    "money": [-1, 4, *far_numbers(), *no_numbers()],
}


def values_of(spending):
    return {part: getattr(spending, part) for part in PARTS}


class SpendingTest(unittest.TestCase):
    def assert_values(self, spending, values):
        told = values_of(spending)
        self.assertEqual(told, values)
        # True equals 1 to Python, so the kinds of the values are compared, too.
        self.assertEqual([type(told[part]) for part in PARTS], [type(values[part]) for part in PARTS])

    def assert_refused(self, part, make, *args, **named):
        with self.assertRaises(NoSpending) as caught:
            make(*args, **named)
        self.assertEqual(caught.exception.part, part)
        self.assertIs(type(caught.exception), NoSpending)

    def assert_no_heads(self, make, *args, **named):
        with self.assertRaises(NoHeads) as caught:
            make(*args, **named)
        self.assertEqual(caught.exception.heads, 0)
        self.assertIs(type(caught.exception.heads), int)
        self.assertNotIsInstance(caught.exception, PenceError)


class Interface(unittest.TestCase):
    def test_signatures(self):
        for function, told in (
            (Spending, "(kind, amount, day=0, paper=True, heads=1, money=0)"),
            (Spending.but, "(self, kind=None, amount=None, day=None, paper=None, heads=None, money=None)"),
            (are_twins, "(one, other)"),
        ):
            self.assertEqual(str(inspect.signature(function)), told)

    def test_defined_in_this_file(self):
        self.assertEqual(Spending.__module__, spendings.__name__)
        self.assertEqual(are_twins.__module__, spendings.__name__)
        self.assertIn("but", vars(Spending))


class Making(SpendingTest):
    """Point 10, what is a spending."""

    def test_by_places(self):
        spending = Spending("ride", 7, 3, False, 2, 1)
        self.assert_values(spending, OTHER)

    def test_by_names(self):
        self.assert_values(Spending(**OTHER), OTHER)
        backwards = {part: OTHER[part] for part in reversed(PARTS)}
        self.assert_values(Spending(**backwards), OTHER)

    def test_by_places_and_names(self):
        self.assert_values(Spending("ride", 7, 3, money=1, heads=2, paper=False), OTHER)

    def test_parts_left_out(self):
        self.assert_values(Spending("meal", 1250), PLAIN)
        self.assert_values(Spending(amount=1250, kind="meal"), PLAIN)
        for part in PARTS[2:]:
            with self.subTest(part=part):
                named = {**OTHER}
                del named[part]
                self.assert_values(Spending(**named), {**OTHER, part: PLAIN[part]})

    def test_kind_and_amount_cannot_be_left_out(self):
        for args in ((), ("meal",)):
            with self.assertRaises(TypeError):
                Spending(*args)

    def test_each_part_at_its_bounds(self):
        for base in (PLAIN, OTHER):
            for part in PARTS:
                for value in ALLOWED[part]:
                    with self.subTest(part=part, value=value):
                        named = {**base, part: value}
                        self.assert_values(Spending(**named), named)
                        self.assert_values(Spending(*named.values()), named)

    def test_all_parts_at_their_bounds_together(self):
        for values in itertools.product(*[(ALLOWED[part][0], ALLOWED[part][-1]) for part in PARTS]):
            self.assert_values(Spending(*values), dict(zip(PARTS, values)))

    def test_the_same_again(self):
        for _ in range(3):
            spending = Spending("ride", 7, 3, False, 2, 1)
            self.assert_values(spending, OTHER)
            self.assert_values(spending, OTHER)


class Refusing(SpendingTest):
    """Point 10, what is none."""

    def test_each_part_otherwise(self):
        for base in (PLAIN, OTHER):
            for part in PARTS:
                for value in REFUSED[part]:
                    with self.subTest(part=part, value=value):
                        named = {**base, part: value}
                        self.assert_refused(part, Spending, **named)
                        self.assert_refused(part, Spending, *named.values())

    def test_the_first_of_several(self):
        wrong = {"kind": "toll", "amount": 0, "day": 60, "paper": 1, "heads": 7, "money": 4}
        for marks in itertools.product((True, False), repeat=len(PARTS)):
            named = {part: wrong[part] if mark else OTHER[part] for part, mark in zip(PARTS, marks)}
            if True in marks:
                with self.subTest(named=named):
                    self.assert_refused(PARTS[marks.index(True)], Spending, **named)

    def test_the_first_of_several_of_other_kinds(self):
        for thing in ([], {}, (), "", Spending("bed", 1)):
            for at, part in enumerate(PARTS):
                values = [OTHER[name] for name in PARTS[:at]] + [thing] * (len(PARTS) - at)
                with self.subTest(part=part, thing=thing):
                    self.assert_refused(part, Spending, *values)

    def test_no_heads(self):
        self.assert_no_heads(Spending, "meal", 1250, heads=0)
        self.assert_no_heads(Spending, "ride", 7, 3, False, 0, 1)

    def test_what_stands_to_the_left_of_no_heads_is_refused_first(self):
        wrong = {"kind": "toll", "amount": 0, "day": 60, "paper": 0}
        for part, value in wrong.items():
            with self.subTest(part=part):
                self.assert_refused(part, Spending, **{**OTHER, "heads": 0, part: value})

    def test_what_stands_to_the_right_of_no_heads_is_not_asked(self):
        for money in REFUSED["money"]:
            with self.subTest(money=money):
                self.assert_no_heads(Spending, **{**OTHER, "heads": 0, "money": money})

    def test_a_truth_is_not_heads_0(self):
        self.assert_refused("heads", Spending, "meal", 1250, heads=False)

    def test_other_heads_are_refused_ahead_of_money(self):
        for heads in (-1, 7, None, "0", [0]):
            self.assert_refused("heads", Spending, "meal", 1250, heads=heads, money=4)

    def test_what_is_refused_is_not_changed(self):
        for thing in ([1, [2]], {"a": [1]}, ([1],)):
            kept = copy.deepcopy(thing)
            for part in PARTS:
                self.assert_refused(part, Spending, **{**PLAIN, part: thing})
            self.assertEqual(thing, kept)

    def test_the_same_again(self):
        for _ in range(3):
            self.assert_refused("day", Spending, "meal", 1250, 60)
            self.assert_no_heads(Spending, "meal", 1250, 0, True, 0)


class Equality(LikenessTest):
    """Point 11, == and !=."""

    def test_alike(self):
        self.assert_alike(Spending("meal", 1250), Spending("meal", 1250, 0, True, 1, 0))
        self.assert_alike(Spending(**OTHER), Spending(**OTHER))
        spending = Spending(**OTHER)
        self.assert_alike(spending, spending)

    def test_unlike_in_each_one(self):
        for base in (PLAIN, OTHER):
            for part in PARTS:
                for value in ALLOWED[part]:
                    if value != base[part]:
                        with self.subTest(part=part, value=value):
                            self.assert_unlike(Spending(**base), Spending(**{**base, part: value}))

    def test_unlike_in_several(self):
        self.assert_unlike(Spending(**PLAIN), Spending(**OTHER))
        self.assert_unlike(Spending("meal", 1, 2), Spending("meal", 2, 1))

    def test_in_a_list(self):
        rows = [Spending(**PLAIN), Spending(**OTHER)]
        self.assertIn(Spending("meal", 1250), rows)
        self.assertIn(Spending("ride", 7, 3, False, 2, 1), rows)
        self.assertEqual(rows.index(Spending(**OTHER)), 1)
        self.assertEqual(rows.count(Spending(**OTHER)), 1)
        for part in PARTS:
            self.assertNotIn(Spending(**{**OTHER, part: PLAIN[part]}), rows)

    def test_never_a_thing_of_another_kind(self):
        spending = Spending("meal", 1)
        things = [thing for thing in (*no_kinds(), *no_numbers(), *far_numbers()) if not isinstance(thing, Spending)]
        things += [1, 0, "meal", repr(spending), tuple(PLAIN.values()), list(PLAIN.values()), dict(PLAIN)]
        for thing in things:
            with self.subTest(thing=thing):
                self.assert_unlike(spending, thing)
                self.assertNotIn(spending, [thing])

    def test_the_same_again(self):
        one, other = Spending("meal", 1250), Spending("meal", 1251)
        for _ in range(3):
            self.assert_alike(one, Spending("meal", 1250))
            self.assert_unlike(one, other)


class Repr(unittest.TestCase):
    """Point 11, the repr."""

    def test_none_told(self):
        self.assertEqual(repr(Spending("meal", 1250)), "Spending('meal', 1250)")
        self.assertEqual(repr(Spending("sundry", 1, 0, True, 1, 0)), "Spending('sundry', 1)")
        self.assertEqual(repr(Spending("bed", 10 ** 6)), "Spending('bed', 1000000)")

    def test_each_one(self):
        for named, told in (
            ({"day": 3}, "Spending('meal', 1250, day=3)"),
            ({"day": 59}, "Spending('meal', 1250, day=59)"),
            ({"day": 1}, "Spending('meal', 1250, day=1)"),
            ({"paper": False}, "Spending('meal', 1250, paper=False)"),
            ({"heads": 2}, "Spending('meal', 1250, heads=2)"),
            ({"heads": 6}, "Spending('meal', 1250, heads=6)"),
            ({"money": 1}, "Spending('meal', 1250, money=1)"),
            ({"money": 3}, "Spending('meal', 1250, money=3)"),
        ):
            self.assertEqual(repr(Spending("meal", 1250, **named)), told)

    def test_several_in_their_order(self):
        pieces = {"day": "day=3", "paper": "paper=False", "heads": "heads=2", "money": "money=1"}
        for many in range(5):
            for parts in itertools.combinations(pieces, many):
                spending = Spending("ride", 7, **{part: OTHER[part] for part in parts})
                told = ", ".join(["Spending('ride', 7", *[pieces[part] for part in parts]]) + ")"
                self.assertEqual(repr(spending), told)

    def test_all(self):
        told = "Spending('ride', 7, day=3, paper=False, heads=2, money=1)"
        self.assertEqual(repr(Spending("ride", 7, 3, False, 2, 1)), told)

    def test_the_same_again(self):
        spending = Spending("ride", 7, 3, False, 2, 1)
        self.assertEqual(repr(spending), repr(spending))
        self.assertEqual(repr([spending, spending]), f"[{spending!r}, {spending!r}]")


class But(SpendingTest):
    """Point 12, `but`."""

    def test_none_handed_in(self):
        for base in (PLAIN, OTHER):
            self.assert_values(Spending(**base).but(), base)
            self.assertIsInstance(Spending(**base).but(), Spending)

    def test_each_one(self):
        for base in (PLAIN, OTHER):
            for at, part in enumerate(PARTS):
                for value in ALLOWED[part]:
                    with self.subTest(part=part, value=value):
                        spending = Spending(**base)
                        told = {**base, part: value}
                        self.assert_values(spending.but(**{part: value}), told)
                        self.assert_values(spending.but(*[None] * at, value), told)
                        self.assert_values(spending, base)

    def test_several_and_all(self):
        for base, new in ((PLAIN, OTHER), (OTHER, PLAIN)):
            for marks in itertools.product((True, False), repeat=len(PARTS)):
                with self.subTest(marks=marks):
                    spending = Spending(**base)
                    handed = {part: new[part] for part, mark in zip(PARTS, marks) if mark}
                    places = [new[part] if mark else None for part, mark in zip(PARTS, marks)]
                    self.assert_values(spending.but(**handed), {**base, **handed})
                    self.assert_values(spending.but(*places), {**base, **handed})
                    self.assert_values(spending, base)

    def test_none_stands_for_as_it_is(self):
        for base in (PLAIN, OTHER):
            self.assert_values(Spending(**base).but(None, None, None, None, None, None), base)
            for part in PARTS:
                self.assert_values(Spending(**base).but(**{part: None}), base)

    def test_refused_as_point_10_tells(self):
        spending = Spending(**OTHER)
        for part in PARTS:
            for value in REFUSED[part]:
                if value is not None:
                    with self.subTest(part=part, value=value):
                        self.assert_refused(part, spending.but, **{part: value})
                        self.assert_refused(part, spending.but, *[None] * PARTS.index(part), value)
        self.assert_values(spending, OTHER)

    def test_the_first_of_several(self):
        wrong = {"kind": "toll", "amount": 0, "day": 60, "paper": 1, "heads": 7, "money": 4}
        spending = Spending(**OTHER)
        for marks in itertools.product((True, False), repeat=len(PARTS)):
            if True in marks:
                handed = {part: wrong[part] for part, mark in zip(PARTS, marks) if mark}
                with self.subTest(handed=handed):
                    self.assert_refused(PARTS[marks.index(True)], spending.but, **handed)
        self.assert_values(spending, OTHER)

    def test_no_heads(self):
        spending = Spending(**OTHER)
        self.assert_no_heads(spending.but, heads=0)
        self.assert_no_heads(spending.but, None, None, None, None, 0)
        self.assert_no_heads(spending.but, heads=0, money=4)
        self.assert_no_heads(spending.but, heads=0, money=[])
        for part, value in (("kind", "toll"), ("amount", 0), ("day", 60), ("paper", 0)):
            self.assert_refused(part, spending.but, **{"heads": 0, part: value})
        self.assert_refused("heads", spending.but, heads=False)
        self.assert_values(spending, OTHER)

    def test_the_same_again(self):
        spending = Spending(**PLAIN)
        for _ in range(3):
            self.assert_values(spending.but(day=3, paper=False), {**PLAIN, "day": 3, "paper": False})
            self.assert_values(spending, PLAIN)


class Twins(unittest.TestCase):
    """Point 12, twins."""

    def assert_twins(self, told, one, other):
        self.assertIs(are_twins(one, other), told)
        self.assertIs(are_twins(other, one), told)
        self.assertIs(are_twins(one=one, other=other), told)
        self.assertIs(are_twins(other=one, one=other), told)

    def test_alike(self):
        self.assert_twins(True, Spending(**OTHER), Spending(**OTHER))
        spending = Spending(**PLAIN)
        self.assert_twins(True, spending, spending)

    def test_by_kind_amount_day_and_money(self):
        for base in (PLAIN, OTHER):
            for part in ("kind", "amount", "day", "money"):
                for value in ALLOWED[part]:
                    if value != base[part]:
                        with self.subTest(part=part, value=value):
                            self.assert_twins(False, Spending(**base), Spending(**{**base, part: value}))

    def test_by_these_alone(self):
        for base in (PLAIN, OTHER):
            for paper in ALLOWED["paper"]:
                for heads in ALLOWED["heads"]:
                    with self.subTest(paper=paper, heads=heads):
                        other = Spending(**{**base, "paper": paper, "heads": heads})
                        self.assert_twins(True, Spending(**base), other)

    def test_nothing_is_changed(self):
        one, other = Spending(**PLAIN), Spending(**OTHER)
        for _ in range(3):
            self.assert_twins(False, one, other)
            self.assertEqual(values_of(one), PLAIN)
            self.assertEqual(values_of(other), OTHER)


if __name__ == "__main__":
    unittest.main()
