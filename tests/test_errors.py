import inspect
import unittest

from roadpence import errors

MADE_WITH_A_TEXT = (
    "NoRates",
    "NoSpot",
    "NoShare",
    "NoBook",
    "NoPlace",
    "Absent",
    "Nothing",
    "NoTable",
    "NoLine",
)
FIELDS = {
    "NoSpending": ("part",),
    "NoRule": ("part",),
    "NoJourney": ("part",),
    "NoText": ("row",),
    "TooMany": ("many", "most"),
    "NoRate": ("money", "day"),
    "NoDay": ("day",),
    "NoName": ("name",),
    "NoHeads": ("heads",),
}
BASES = {
    "PenceError": ValueError,
    "NoRate": LookupError,
    "NoDay": IndexError,
    "NoName": KeyError,
    "NoHeads": ZeroDivisionError,
}
NAMES = ("PenceError", *MADE_WITH_A_TEXT, *FIELDS)


class Bases(unittest.TestCase):
    """Point 4."""

    def test_each_stands_straight_under_the_one_told(self):
        for name in NAMES:
            with self.subTest(name=name):
                base = BASES.get(name, errors.PenceError)
                self.assertEqual(getattr(errors, name).__bases__, (base,))

    def test_none_stands_under_another_one(self):
        for name in NAMES[1:]:
            for other in NAMES[1:]:
                if name != other:
                    with self.subTest(name=name, other=other):
                        self.assertFalse(issubclass(getattr(errors, name), getattr(errors, other)))

    def test_four_do_not_stand_under_pence_error(self):
        for name in ("NoRate", "NoDay", "NoName", "NoHeads"):
            self.assertFalse(issubclass(getattr(errors, name), errors.PenceError))
            self.assertFalse(issubclass(getattr(errors, name), ValueError))

    def test_each_is_defined_in_this_file(self):
        for name in NAMES:
            self.assertEqual(getattr(errors, name).__module__, "roadpence.errors")
            self.assertEqual(getattr(errors, name).__name__, name)

    def test_there_are_no_other_ones(self):
        told = {name for name, thing in vars(errors).items() if inspect.isclass(thing)}
        self.assertEqual(told, set(NAMES))


class Fields(unittest.TestCase):
    """The fields that the interface lists."""

    def test_made_with_a_text(self):
        for name in MADE_WITH_A_TEXT:
            with self.subTest(name=name):
                error = getattr(errors, name)("some text")
                self.assertIsInstance(error, errors.PenceError)
                self.assertEqual(str(error), "some text")

    def test_fields_by_places(self):
        for name, fields in FIELDS.items():
            with self.subTest(name=name):
                values = [f"value {at}" for at in range(len(fields))]
                error = getattr(errors, name)(*values)
                self.assertEqual([getattr(error, field) for field in fields], values)

    def test_fields_by_names(self):
        for name, fields in FIELDS.items():
            with self.subTest(name=name):
                values = {field: at for at, field in enumerate(fields)}
                error = getattr(errors, name)(**values)
                self.assertEqual({field: getattr(error, field) for field in fields}, values)

    def test_fields_are_in_the_order_told(self):
        for name, fields in FIELDS.items():
            with self.subTest(name=name):
                self.assertEqual(tuple(inspect.signature(getattr(errors, name)).parameters), fields)

    def test_each_can_be_raised_and_caught(self):
        for name, fields in FIELDS.items():
            made = getattr(errors, name)
            with self.subTest(name=name), self.assertRaises(BASES.get(name, errors.PenceError)) as caught:
                raise made(*range(len(fields)))
            self.assertIs(type(caught.exception), made)
            self.assertIsInstance(str(caught.exception), str)


if __name__ == "__main__":
    unittest.main()
