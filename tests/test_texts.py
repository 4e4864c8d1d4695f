import inspect
import itertools
import random
import re
import unittest

from roadpence import texts
from roadpence.books import Rulebook
from roadpence.errors import NoText, PenceError
from roadpence.rules import Rule
from roadpence.spendings import Spending
from roadpence.texts import book_text, read_book, read_rule, read_spending, rule_text, spending_text
from tests.by_hand import DEEDS, KINDS, MOST
from tests.drawn import drawn_book, drawn_rule, drawn_spending
from tests.samples import no_texts
from tests.samples import texts as sample_texts

SIDE = 10 ** 6
NAMES = ("a", "b", "c", "d", "e", "f", "g", "h", "i")
# What is written of each part, in the order in which it is.
SPENDING_WORDS = {"day": (3, "day=3"), "paper": (False, "bare"), "heads": (2, "heads=2"), "money": (1, "money=1")}
RULE_WORDS = {
    "bound": (2500, "bound=2500"),
    "kind": ("meal", "kind=meal"),
    "town": (1, "town=1"),
    "first": (3, "first=3"),
    "last": (9, "last=9"),
    "over": (100, "over=100"),
    "paper": (False, "bare"),
}
ODD_NUMBERS = ("", "03", "00", "+3", "-3", "-0", "+0", "3_0", "_3", "3_", "3.0", "0x3", "3e0", "3 ", "\t3", "3\n", "x")
LONG_NUMBERS = ("1" * 29, "1" * 30, "1" * 31, "9" * 30, "1" * 1900, "1" * 5000, "0" * 30)
NUMBER = "(0|[1-9][0-9]*)"
SPENDING_FORM = re.compile(f"([a-z]+) {NUMBER}(?: day={NUMBER})?( bare)?(?: heads={NUMBER})?(?: money={NUMBER})?")
RULE_FORM = re.compile(
    f"([a-z]{{1,8}}) ([a-z]+)(?: bound={NUMBER})?(?: kind=([a-z]+))?(?: town={NUMBER})?(?: first={NUMBER})?"
    f"(?: last={NUMBER})?(?: over={NUMBER})?( papered| bare)?"
)


def within(word, least, most):
    """Tell whether a number that is written is within its bounds, where it is written at all."""
    return word is None or least <= int(word) <= most


def writes_spending(text):
    """Tell whether a text writes a spending, by the form of all such texts."""
    found = SPENDING_FORM.fullmatch(text)
    if not found:
        return False
    kind, amount, day, _, heads, money = found.groups()
    if kind not in KINDS or not within(amount, 1, SIDE) or not within(day, 1, 59):
        return False
    return within(heads, 2, 6) and within(money, 1, 3)


def writes_rule(text):
    """Tell whether a text writes a rule, by the form of all such texts."""
    found = RULE_FORM.fullmatch(text)
    if not found:
        return False
    _, deed, bound, kind, town, first, last, over, _ = found.groups()
    if deed not in DEEDS or not within(bound, 1, DEEDS[deed]) or kind not in (None, *KINDS):
        return False
    return (
        within(town, 0, 3)
        and within(first, 1, 59)
        and within(last, int(first or 0), 58)
        and within(over, 1, MOST)
    )


def row_of_book(text):
    """Tell the number of the first line that is none of a book's, or None."""
    names = []
    if text == "-":
        return None
    for row, line in enumerate(text.split("\n"), start=1):
        name = line.split(" ")[0]
        if not writes_rule(line) or row == 9 or name in names:
            return row
        names.append(name)
    return None


def near(chance, text):
    """Tell a text that is near another one."""
    at, other = sorted((chance.randrange(len(text) + 1), chance.randrange(len(text) + 1)))
    words = text.split(" ")
    place = chance.randrange(len(words))
    more = ("day=0", "heads=1", "money=0", "bound=0", "first=0", "last=59", "over=0", "papered", "bare", "kind=bed")
    changes = (
        lambda: text[:at] + text[at + 1:],
        lambda: text[:at] + chance.choice(" =-+_0123456789abdelmnort\n\tA.") + text[at:],
        lambda: text[:at] + chance.choice(" =0123456789ab") + text[at + 1:],
        lambda: text[:at] + text[other:],
        lambda: text + text[at:other],
        lambda: " ".join(words[:place] + words[place + 1:]),
        lambda: " ".join(words[:place] + [chance.choice(more)] + words[place:]),
        lambda: " ".join(words[:place + 1] + words[place:]),
        lambda: " ".join(chance.sample(words, len(words))),
        lambda: text,
    )
    return chance.choice(changes)()


class TextsTest(unittest.TestCase):
    def assert_no_text(self, row, read, text):
        with self.assertRaises(NoText) as caught:
            read(text)
        self.assertIs(type(caught.exception), NoText)
        self.assertEqual(caught.exception.row, row)
        self.assertIs(type(caught.exception.row), int)
        self.assertIsInstance(caught.exception, PenceError)

    def assert_written(self, text, thing, write, read):
        """See that a thing is written so, and that the text is read as this thing."""
        for _ in range(2):
            self.assertEqual(write(thing), text)
            self.assertIs(type(write(thing)), str)
            self.assertEqual(read(text), thing)
            self.assertIs(type(read(text)), type(thing))
        self.assertEqual(repr(read(text)), repr(thing))

    def assert_spending(self, text, spending):
        self.assert_written(text, spending, spending_text, read_spending)

    def assert_rule(self, text, rule):
        self.assert_written(text, rule, rule_text, read_rule)

    def assert_book(self, text, book):
        self.assert_written(text, book, book_text, read_book)

    def assert_no_spending(self, text):
        self.assert_no_text(0, read_spending, text)

    def assert_no_rule(self, text):
        self.assert_no_text(0, read_rule, text)


class Interface(unittest.TestCase):
    def test_signatures(self):
        for name, told in (
            ("spending_text", "(spending)"),
            ("rule_text", "(rule)"),
            ("book_text", "(book)"),
            ("read_spending", "(text)"),
            ("read_rule", "(text)"),
            ("read_book", "(text)"),
        ):
            self.assertEqual(str(inspect.signature(getattr(texts, name))), told)
            self.assertEqual(getattr(texts, name).__module__, texts.__name__)

    def test_by_names(self):
        spending, rule, book = Spending("meal", 1), Rule("a"), Rulebook([Rule("a")])
        self.assertEqual(read_spending(text=spending_text(spending=spending)), spending)
        self.assertEqual(read_rule(text=rule_text(rule=rule)), rule)
        self.assertEqual(read_book(text=book_text(book=book)), book)


class Spendings(TextsTest):
    """Point 80, texts of spendings."""

    def test_as_the_document_has_it(self):
        self.assert_spending("meal 1250 day=3 bare", Spending("meal", 1250, 3, False))

    def test_none_told(self):
        for kind in KINDS:
            for amount in (1, 10, 1250, SIDE):
                self.assert_spending(f"{kind} {amount}", Spending(kind, amount))

    def test_each_one_and_all_in_their_order(self):
        for many in range(5):
            for parts in itertools.combinations(SPENDING_WORDS, many):
                named = {part: SPENDING_WORDS[part][0] for part in parts}
                words = [SPENDING_WORDS[part][1] for part in parts]
                self.assert_spending(" ".join(["ride", "7", *words]), Spending("ride", 7, **named))

    def test_each_value(self):
        for part, values in (("day", range(1, 60)), ("heads", range(2, 7)), ("money", range(1, 4))):
            for value in values:
                self.assert_spending(f"bed 1 {part}={value}", Spending("bed", 1, **{part: value}))

    def test_what_is_as_in_the_interface(self):
        for word in ("day=0", "heads=1", "money=0", "papered", "paper=True", "paper=1", "bare=1", "bare="):
            self.assert_no_spending(f"meal 1250 {word}")
            self.assert_no_spending(f"meal 1250 {word} money=1")
            self.assert_no_spending(f"meal 1250 day=3 {word}")

    def test_another_order(self):
        words = [word for _, word in SPENDING_WORDS.values()]
        for many in range(2, 5):
            for some in itertools.permutations(words, many):
                text = " ".join(["ride", "7", *some])
                if list(some) != [word for word in words if word in some]:
                    self.assert_no_spending(text)
        for text in ("7 ride", "day=3 ride 7", "ride day=3 7", "bare ride 7", "ride bare 7"):
            self.assert_no_spending(text)

    def test_a_part_twice(self):
        for _, word in SPENDING_WORDS.values():
            self.assert_no_spending(f"ride 7 {word} {word}")
        for text in ("ride 7 day=3 day=4", "ride 7 7", "ride ride 7", "ride 7 ride 7", "ride 7 day=0 day=3"):
            self.assert_no_spending(text)

    def test_blanks(self):
        for text in ("ride 7", "ride 7 day=3", "ride 7 day=3 bare heads=2 money=1"):
            for at in range(len(text) + 1):
                self.assert_no_spending(text[:at] + " " + text[at:])
                self.assert_no_spending(text[:at] + "\n" + text[at:])
                self.assert_no_spending(text[:at] + "\t" + text[at:])
            self.assert_no_spending(text.replace(" ", "\t"))
            self.assert_no_spending(text.replace(" ", ""))
            self.assert_no_spending(text.replace(" ", "\n"))
            self.assert_no_spending(" ".join(("", text, "")))

    def test_numbers(self):
        for word in (*ODD_NUMBERS, *LONG_NUMBERS):
            with self.subTest(word=word):
                self.assert_no_spending(f"meal {word}")
                self.assert_no_spending(f"meal {word} day=3")
                for part in ("day", "heads", "money"):
                    self.assert_no_spending(f"meal 1 {part}={word}")

    def test_beyond_their_bounds(self):
        for text in ("meal 0", "meal 1000001", "meal 1 day=60", "meal 1 heads=0", "meal 1 heads=7", "meal 1 money=4"):
            self.assert_no_spending(text)

    def test_other_words(self):
        for kind in ("toll", "Meal", "MEAL", "mea", "meals", "", "None", "0", "-"):
            self.assert_no_spending(f"{kind} 1250")
        for word in ("", "x", "day", "day=", "=", "=3", "day==3", "day=3=", "Day=3", "DAY=3", "kind=meal", "amount=5"):
            self.assert_no_spending(f"meal 1250 {word}")
        for word in ("day:3", "day3", "Bare", "bared", "bar", "heads=two", "money=None", "day=None", "town=1", "bare,"):
            self.assert_no_spending(f"meal 1250 {word}")

    def test_too_few_words(self):
        for text in ("", " ", "meal", "meal ", " 1250", "1250", "\n", "-", "bare"):
            self.assert_no_spending(text)

    def test_things_that_are_no_text(self):
        for thing in (*no_texts(), ["meal 1250"], ("meal", 1250), {"meal": 1250}, Spending("meal", 1250)):
            with self.subTest(thing=thing):
                self.assert_no_spending(thing)
        for text in sample_texts():
            self.assert_no_spending(text)
        self.assert_no_spending(repr(Spending("meal", 1250)))
        self.assert_no_spending("eats cut bound=2500 kind=meal")

    def test_drawn_by_chance(self):
        chance = random.Random(80)
        for _ in range(1000):
            spending = drawn_spending(chance, 60)
            self.assertTrue(writes_spending(spending_text(spending)))
            self.assertEqual(read_spending(spending_text(spending)), spending)

    def test_texts_near_by(self):
        chance, seen = random.Random(801), set()
        for _ in range(20000):
            text = near(chance, spending_text(drawn_spending(chance, 60)))
            held = writes_spending(text)
            seen.add(held)
            with self.subTest(text=text):
                if held:
                    self.assertEqual(spending_text(read_spending(text)), text)
                else:
                    self.assert_no_spending(text)
        self.assertEqual(seen, {True, False})


class Rules(TextsTest):
    """Point 80, texts of rules."""

    def test_as_the_document_has_it(self):
        self.assert_rule("eats cut bound=2500 kind=meal", Rule("eats", "cut", 2500, "meal"))

    def test_none_told(self):
        for name in ("a", "eats", "zzzzzzzz", "let", "bare", "twin", "none", "kind"):
            for deed in DEEDS:
                self.assert_rule(f"{name} {deed}", Rule(name, deed))

    def test_each_one_and_all_in_their_order(self):
        for many in range(8):
            for parts in itertools.combinations(RULE_WORDS, many):
                named = {part: RULE_WORDS[part][0] for part in parts}
                words = [RULE_WORDS[part][1] for part in parts]
                self.assert_rule(" ".join(["eats", "cut", *words]), Rule("eats", "cut", **named))

    def test_each_value(self):
        for part, values in (
            ("town", range(4)),
            ("first", range(1, 60)),
            ("last", range(59)),
            ("over", (1, 2, 10, MOST)),
            ("kind", KINDS),
        ):
            for value in values:
                self.assert_rule(f"a let {part}={value}", Rule("a", **{part: value}))
        self.assert_rule("a let papered", Rule("a", paper=True))
        self.assert_rule("a let bare", Rule("a", paper=False))
        self.assert_rule("a let first=30 last=30", Rule("a", first=30, last=30))

    def test_bounds_by_their_deeds(self):
        for deed, most in DEEDS.items():
            for bound in {1, most // 2, most} - {0}:
                if bound <= most:
                    self.assert_rule(f"a {deed} bound={bound}", Rule("a", deed, bound))
            self.assert_no_rule(f"a {deed} bound={most + 1}")
            self.assert_no_rule(f"a {deed} bound=0")

    def test_what_is_as_in_the_interface(self):
        for word in ("bound=0", "first=0", "last=59", "over=0", "kind=None", "town=None", "paper=None", "kind="):
            self.assert_no_rule(f"eats cut {word}")
            self.assert_no_rule(f"eats let {word}")
            self.assert_no_rule(f"eats cut bound=5 {word}")
            self.assert_no_rule(f"eats cut {word} bare")

    def test_the_deed_is_never_left_out(self):
        for text in ("eats", "eats ", "eats kind=meal", "eats bound=5", "eats deed=let", "eats cut deed=cut"):
            self.assert_no_rule(text)

    def test_another_order(self):
        words = [word for _, word in RULE_WORDS.values()]
        for many in (2, 3, 7):
            for some in itertools.islice(itertools.permutations(words, many), 800):
                if list(some) != [word for word in words if word in some]:
                    self.assert_no_rule(" ".join(["eats", "cut", *some]))
        for text in ("kind=meal eats cut", "eats kind=meal cut", "bare eats cut", "bound=5 eats cut"):
            self.assert_no_rule(text)

    def test_a_part_twice(self):
        for _, word in RULE_WORDS.values():
            self.assert_no_rule(f"eats cut {word} {word}")
        for text in ("eats cut papered bare", "eats cut bare papered", "eats cut cut", "eats cut bound=4 bound=5"):
            self.assert_no_rule(text)

    def test_blanks(self):
        for text in ("eats cut", "eats cut bound=5", "eats cut bound=5 kind=meal town=1 first=3 last=9 over=7 papered"):
            for at in range(len(text) + 1):
                for sign in (" ", "\n", "\t"):
                    self.assert_no_rule(text[:at] + sign + text[at:])
            self.assert_no_rule(text.replace(" ", "\t"))
            self.assert_no_rule(text.replace(" ", ""))
            self.assert_no_rule(text.replace(" ", "  "))

    def test_numbers(self):
        for word in (*ODD_NUMBERS, *LONG_NUMBERS):
            for part in ("bound", "town", "first", "last", "over"):
                with self.subTest(part=part, word=word):
                    self.assert_no_rule(f"eats cut {part}={word}")
                    self.assert_no_rule(f"eats each {part}={word} bare")

    def test_beyond_their_bounds(self):
        for text in (
            "eats let town=4",
            "eats let first=60",
            "eats let last=60",
            "eats let first=5 last=4",
            f"eats let over={MOST + 1}",
            "eats let bound=1",
            "eats refuse bound=1",
            "eats let kind=toll",
            "eats let kind=Meal",
        ):
            self.assert_no_rule(text)

    def test_names_and_deeds(self):
        for name in ("", "Eats", "eats1", "eat_s", "eat-s", "eats,", "nineletrs", "-", "0", "e=a"):
            self.assert_no_rule(f"{name} let")
        for deed in ("", "Let", "LET", "lets", "pay", "none", "0", "bare", "deed=let", "let,"):
            self.assert_no_rule(f"eats {deed}")

    def test_other_words(self):
        for word in ("", "x", "=", "=5", "bound", "bound=", "bound==5", "day=3", "name=a", "Bare", "paper=False"):
            self.assert_no_rule(f"eats cut {word}")

    def test_things_that_are_no_text(self):
        for thing in (*no_texts(), ["eats let"], ("eats", "let"), {"eats": "let"}, Rule("eats")):
            with self.subTest(thing=thing):
                self.assert_no_rule(thing)
        for text in ("", " ", "-", "\n", *sample_texts(), repr(Rule("eats")), "meal 1250"):
            self.assert_no_rule(text)
        self.assert_no_rule("a let\nb let")

    def test_drawn_by_chance(self):
        chance = random.Random(802)
        for _ in range(1000):
            rule = drawn_rule(chance, chance.choice(("a", "eats", "longname")))
            self.assertTrue(writes_rule(rule_text(rule)))
            self.assertEqual(read_rule(rule_text(rule)), rule)

    def test_texts_near_by(self):
        chance, seen = random.Random(803), set()
        for _ in range(20000):
            text = near(chance, rule_text(drawn_rule(chance, "eats")))
            held = writes_rule(text)
            seen.add(held)
            with self.subTest(text=text):
                if held:
                    self.assertEqual(rule_text(read_rule(text)), text)
                else:
                    self.assert_no_rule(text)
        self.assertEqual(seen, {True, False})


class Books(TextsTest):
    """Point 80, texts of books."""

    def assert_no_book(self, row, text):
        self.assert_no_text(row, read_book, text)

    def lines(self, many):
        return [f"{name} cut bound={at + 1}" for at, name in enumerate(NAMES[:many])]

    def test_none_to_eight_rules(self):
        self.assert_book("-", Rulebook())
        for many in range(1, 9):
            rules = [Rule(name, "cut", at + 1) for at, name in enumerate(NAMES[:many])]
            self.assert_book("\n".join(self.lines(many)), Rulebook(rules))
            self.assert_book("\n".join(self.lines(many)[::-1]), Rulebook(rules[::-1]))
        self.assert_book("eats cut bound=2500 kind=meal", Rulebook([Rule("eats", "cut", 2500, "meal")]))
        self.assert_book("eats let\nrest refuse", Rulebook([Rule("eats"), Rule("rest", "refuse")]))

    def test_nine(self):
        self.assert_no_book(9, "\n".join(self.lines(9)))
        self.assert_no_book(9, "\n".join(self.lines(9) + ["", "x"]))
        for ninth in ("", "-", "x", "a let", "meal 1250"):
            self.assert_no_book(9, "\n".join(self.lines(8) + [ninth]))
        self.assert_no_book(8, "\n".join(self.lines(7) + ["a let", "i let"]))

    def test_a_name_twice(self):
        for one, other in itertools.combinations(range(8), 2):
            lines = self.lines(8)
            lines[other] = f"{NAMES[one]} refuse"
            self.assert_no_book(other + 1, "\n".join(lines))
        self.assert_no_book(2, "a let\na let")
        self.assert_no_book(3, "a let\nb let\na let\na let\nx")

    def test_a_line_that_is_none(self):
        wrongs = ("", " ", "--", "x", "a", "meal 1250", "A let", " a let", "a let ", "a  let", "a let bound=0", "\t")
        for wrong, at in itertools.product(wrongs, range(8)):
            lines = self.lines(8)
            lines[at] = wrong
            self.assert_no_book(at + 1, "\n".join(lines))
            self.assert_no_book(at + 1, "\n".join(lines[:at + 1]))
            lines[7] = wrong
            self.assert_no_book(at + 1, "\n".join(lines))

    def test_empty_lines(self):
        self.assert_no_book(1, "")
        self.assert_no_book(1, "\n")
        self.assert_no_book(1, "\na let")
        self.assert_no_book(2, "a let\n")
        self.assert_no_book(2, "a let\n\nb let")
        self.assert_no_book(3, "a let\nb let\n")

    def test_a_stroke(self):
        for text in ("-\n", "-\n-", "-\na let", "--", " -", "- ", "-\n\n"):
            self.assert_no_book(1, text)
        self.assert_no_book(2, "a let\n-")
        self.assert_no_book(2, "a let\n-\nb let")
        self.assert_no_book(8, "\n".join(self.lines(7) + ["-"]))
        self.assert_book("-", Rulebook())

    def test_other_line_ends(self):
        self.assert_no_book(1, "a let ; b let")
        self.assert_no_book(1, "a let\tb let")

    def test_things_that_are_no_text(self):
        things = (*no_texts(), ["a let"], ("a let", "b let"), Rulebook(), Rulebook([Rule("a")]))
        for thing in things:
            with self.subTest(thing=thing):
                self.assert_no_book(0, thing)
        for text in sample_texts():
            with self.subTest(text=text):
                self.assert_no_book(1, text)

    def test_drawn_by_chance(self):
        chance = random.Random(804)
        for _ in range(300):
            book = drawn_book(chance, chance.randint(0, 8))
            self.assertIs(row_of_book(book_text(book)), None)
            self.assertEqual(read_book(book_text(book)), book)

    def test_texts_near_by(self):
        chance, seen = random.Random(805), set()
        for _ in range(8000):
            text = near(chance, book_text(drawn_book(chance, chance.randint(0, 4), 0.8)))
            row = row_of_book(text)
            seen.add(row)
            with self.subTest(text=text):
                if row is None:
                    self.assertEqual(book_text(read_book(text)), text)
                else:
                    self.assert_no_book(row, text)
        self.assertTrue({None, 1, 2, 3, 4} <= seen)

    def test_the_book_and_its_rules_stay(self):
        book = Rulebook([Rule("a", "cut", 5), Rule("b")])
        for _ in range(3):
            self.assertEqual(book_text(book), "a cut bound=5\nb let")
            read_book(book_text(book)).rules().clear()
            self.assertEqual(book, Rulebook([Rule("a", "cut", 5), Rule("b")]))


if __name__ == "__main__":
    unittest.main()
