import inspect
import itertools
import random
import re
import unittest

from roadpence import desk as desk_file
from roadpence.books import Rulebook
from roadpence.cases import first_apart
from roadpence.desk import Desk
from roadpence.errors import (
    Absent,
    NoBook,
    NoDay,
    NoJourney,
    NoLine,
    NoName,
    NoRate,
    NoRates,
    NoShare,
    NoTable,
    NoText,
    Nothing,
    TooMany,
)
from roadpence.journeys import Journey
from roadpence.rules import Rule
from roadpence.settling import owed, verdicts
from roadpence.spendings import Spending
from roadpence.texts import book_text, rule_text, spending_text
from tests.by_hand import KINDS, MOST
from tests.drawn import BOUNDS, NAMES, drawn_rates, drawn_rule, drawn_spending, drawn_towns
from tests.samples import no_texts, whatever

RATES = ((1, 0, 3, 2), (2, 1, 1, 3))
TABLE = (1000, 2005, 0, 7)
# A number of thirty figures, and one of thirty-one.
LONG, LONGER = "9" * 30, "9" * 31
NUMBER = "(0|[1-9][0-9]{0,29})"
FORMS = re.compile(
    f"towns( {NUMBER})+|(add|strike|rule|apart) .*|had {NUMBER}|undo|owed|lines|twins|rules|drop [^ ]+"
    f"|room ({'|'.join(KINDS)}) {NUMBER}",
    re.DOTALL,
)
ASKING = ("owed", "lines", "twins", "room", "rules", "apart")
TELLING = ("towns", "add", "strike", "had", "undo", "rule", "drop")
QUESTIONS = ("owed", "lines", "twins", "rules", *[f"room {kind} 0" for kind in KINDS], "apart zz cut bound=7")
OPENING = ("towns 1 0 2", "add meal 1250", "add bed 90 day=2 bare", "had 300", "rule eats cut bound=1000 kind=meal")


class Model:
    """A journey and a book that are told what a desk is told, and answer by the rest of the program."""

    def __init__(self, rates=None, table=None):
        self.rates = rates
        self.table = table
        self.journey = Journey((0,))
        self.book = Rulebook()

    def answer(self, word, thing=None):
        """Tell the answer to a word and what stands behind it, which is not written out."""
        if word == "towns":
            self.journey = Journey(thing)
        elif word in ("add", "strike"):
            (self.journey.spend if word == "add" else self.journey.strike)(thing)
        elif word == "had":
            self.journey.had(thing)
        elif word == "undo":
            self.journey.undo()
        elif word == "rule":
            self.book = self.book.with_rule(thing)
        elif word == "drop":
            self.book = self.book.without(thing)
        else:
            return self.told(word, thing)
        return "ok"

    def told(self, word, thing):
        if word == "owed":
            return str(owed(self.journey, self.book, self.rates, self.table))
        if word == "lines":
            rows = verdicts(self.journey, self.book, self.rates)
            return " ".join(f"{row.paid}:{'none' if row.name is None else row.name}" for row in rows) or "none"
        if word == "twins":
            return " ".join(str(at) for at in self.journey.twins()) or "none"
        if word == "rules":
            return " ; ".join(book_text(self.book).split("\n"))
        if word == "room":
            kind, day = thing
            return str(self.book.room(kind, self.journey.town_on(day), day)).lower()
        spot = first_apart(self.book, self.book.with_rule(thing, 0))
        if spot is None:
            return "none"
        return f"{spot[0]} {spot[1]} {'papered' if spot[2] else 'bare'} {spot[3]} {spot[4]}"


def line_of(word, thing=None):
    """Tell the line that tells a desk this."""
    if thing is None:
        return word
    if isinstance(thing, Spending):
        return f"{word} {spending_text(thing)}"
    if isinstance(thing, Rule):
        return f"{word} {rule_text(thing)}"
    if isinstance(thing, tuple):
        return " ".join([word, *[str(part) for part in thing]])
    return f"{word} {thing}"


class DeskTest(unittest.TestCase):
    def made(self, *lines, rates=None, table=None):
        """Tell a desk that was told these lines, each answered by ok."""
        desk = Desk(rates, table)
        for line in lines:
            self.assertEqual(desk.say(line), "ok")
        return desk

    def assert_answer(self, told, desk, line):
        answer = desk.say(line)
        self.assertEqual(answer, told)
        self.assertIs(type(answer), str)

    def assert_asked(self, told, desk, line):
        """See that a question is answered so, and again."""
        for _ in range(2):
            self.assert_answer(told, desk, line)

    def assert_refused(self, error, fields, desk, line):
        with self.assertRaises(error) as caught:
            desk.say(line)
        self.assertIs(type(caught.exception), error)
        for field, worth in fields.items():
            self.assertEqual(getattr(caught.exception, field), worth)

    def assert_no_line(self, desk, line):
        self.assert_refused(NoLine, {}, desk, line)

    def answers(self, desk):
        """Tell the answers to many questions."""
        told = []
        for line in QUESTIONS:
            try:
                told.append(desk.say(line))
            except (NoRate, NoBook) as refusal:
                told.append(repr(refusal))
        return told

    def assert_same(self, desk, other):
        """See that two desks answer alike, however much is undone. (It is, then.)"""
        self.assertEqual(self.answers(desk), self.answers(other))
        while True:
            try:
                other.say("undo")
            except Nothing:
                self.assert_refused(Nothing, {}, desk, "undo")
                return
            self.assert_answer("ok", desk, "undo")
            self.assertEqual(self.answers(desk), self.answers(other))

    def assert_refused_and_same(self, error, fields, lines, line, **named):
        """See that a line is refused behind others, and changes nothing."""
        desk = self.made(*lines, **named)
        ahead = self.answers(desk)
        for _ in range(2):
            self.assert_refused(error, fields, desk, line)
            self.assertEqual(self.answers(desk), ahead)
        self.assert_same(desk, self.made(*lines, **named))


class Interface(unittest.TestCase):
    def test_signatures(self):
        self.assertEqual(str(inspect.signature(Desk)), "(rates=None, table=None)")
        self.assertEqual(str(inspect.signature(Desk.say)), "(self, line)")
        self.assertEqual(Desk.__module__, desk_file.__name__)
        self.assertIn("say", vars(Desk))


class Making(DeskTest):
    """Point 90, what a desk is made of."""

    def test_at_first(self):
        answers = {"owed": "0", "lines": "none", "twins": "none", "rules": "-", "room bed 0": "none"}
        for desk in (Desk(), Desk(None), Desk(None, None), Desk((), (0, 0, 0, 0))):
            for line, told in answers.items():
                self.assert_asked(told, desk, line)
            self.assert_refused(Nothing, {}, desk, "undo")
            self.assert_refused(NoDay, {"day": 1}, desk, "room bed 1")
        self.assert_asked("1000", Desk(table=TABLE), "owed")

    def test_rates_and_table(self):
        for desk in (Desk(RATES, TABLE), Desk(rates=RATES, table=TABLE), Desk(table=TABLE, rates=RATES)):
            self.assert_answer("ok", desk, "add bed 10 money=1")
            self.assert_asked("1000", desk, "owed")
            self.assert_answer("ok", desk, "rule a let")
            self.assert_asked("1015", desk, "owed")
            self.assert_asked("15:a", desk, "lines")

    def test_rates_left_out_none_and_empty(self):
        for desk in (Desk(), Desk(None, TABLE), Desk(()), Desk(rates=None)):
            self.assert_answer("ok", desk, "add bed 10 money=1")
            for line in ("owed", "lines"):
                self.assert_refused(NoRate, {"money": 1, "day": 0}, desk, line)

    def test_no_rates_then_no_table(self):
        no_rates = [thing for thing in whatever() if thing not in (None, (), ((1, 0, 1, 1),))]
        no_tables = [thing for thing in whatever() if thing is not None and thing != (1, 0, 1, 1)]
        for thing in (*no_rates, list(RATES), RATES[::-1], ((1, 0, 0, 1),)):
            for table in ((), (TABLE,), (None,), (0,), ([0],)):
                with self.subTest(thing=thing, table=table), self.assertRaises(NoRates):
                    Desk(thing, *table)
        for thing in (*no_tables, list(TABLE), TABLE[:3], (*TABLE, 0), (0, 0, 0, 10 ** 6 + 1), (0, 0, 0, True)):
            for rates in (None, (), RATES):
                with self.subTest(thing=thing), self.assertRaises(NoTable):
                    Desk(rates, thing)


class Deeds(DeskTest):
    """Point 90, the journey's deeds."""

    def test_towns(self):
        for towns in ((0,), (3,), (0, 1, 2, 3), (2,) * 30):
            desk = self.made(line_of("towns", towns), table=TABLE)
            self.assert_asked(str(sum(TABLE[town] for town in towns)), desk, "owed")
            self.assert_refused(NoDay, {"day": len(towns)}, desk, f"room bed {len(towns)}")
            self.assert_asked("none", desk, f"room bed {len(towns) - 1}")

    def test_no_journey(self):
        for towns in ("4", "0 4", "4 0", " ".join(["0"] * 31), " ".join(["1"] * 300), LONG, "59"):
            self.assert_refused_and_same(NoJourney, {"part": "towns"}, OPENING, f"towns {towns}")

    def test_a_new_journey(self):
        desk = self.made(*OPENING)
        self.assert_asked("1000:eats 0:none", desk, "lines")
        self.assert_answer("ok", desk, "towns 3")
        self.assert_asked("none", desk, "lines")
        self.assert_asked("0", desk, "owed")
        self.assert_asked("eats cut bound=1000 kind=meal", desk, "rules")
        self.assert_refused(Nothing, {}, desk, "undo")
        self.assert_answer("ok", desk, "add meal 7")
        self.assert_asked("7:eats", desk, "lines")

    def test_the_same_towns_begin_a_new_journey(self):
        desk = self.made("add meal 7", "towns 0")
        self.assert_asked("none", desk, "lines")
        self.assert_refused(Nothing, {}, desk, "undo")

    def test_add_and_strike(self):
        desk = self.made("rule a let", "add meal 1250", "add meal 1250 bare", "add bed 3 heads=2")
        self.assert_asked("2:a 1250:a 0:twin", desk, "lines")
        self.assert_answer("ok", desk, "strike meal 1250")
        self.assert_asked("2:a 1250:a", desk, "lines")
        self.assert_answer("ok", desk, "strike bed 3 heads=2")
        self.assert_asked("1250:a", desk, "lines")

    def test_no_day(self):
        for line in ("add meal 1 day=3", "add meal 1 day=59 bare"):
            day = int(line.split("=")[1].split(" ")[0])
            self.assert_refused_and_same(NoDay, {"day": day}, OPENING, line)
        self.assert_refused_and_same(NoDay, {"day": 1}, (), "add meal 1 day=1")

    def test_too_many(self):
        lines = ["add bed 5"] * 40
        self.assert_refused_and_same(TooMany, {"many": 41, "most": 40}, lines, "add meal 5")
        self.assert_refused_and_same(NoDay, {"day": 1}, lines, "add meal 5 day=1")
        lines = ["had 5"] * 10
        self.assert_refused_and_same(TooMany, {"many": 11, "most": 10}, lines, "had 5")
        self.assert_refused_and_same(NoShare, {}, lines, "had 0")

    def test_absent(self):
        for spending in ("meal 1250 bare", "meal 1250 heads=2", "bed 90 day=2", "fee 1", "bed 90 day=59 bare"):
            self.assert_refused_and_same(Absent, {}, OPENING, f"strike {spending}")
        self.assert_refused_and_same(Absent, {}, (), "strike meal 1250")

    def test_no_share(self):
        for number in ("0", str(10 ** 9 + 1), LONG):
            self.assert_refused_and_same(NoShare, {}, OPENING, f"had {number}")

    def test_had(self):
        desk = self.made("had 1", "had 1000000000")
        self.assert_asked("-1000000001", desk, "owed")
        self.assert_asked("none", desk, "lines")

    def test_no_text(self):
        texts = ["", " ", "\n", "x", "meal", "meal 0", "meal 01", "meal 1 day=0", "meal 1 papered", "eats let"]
        texts += ["meal  1", " meal 1", "meal 1 ", "meal 1\n", f"meal {LONGER}"]
        for word, text in itertools.product(("add", "strike"), texts):
            self.assert_refused_and_same(NoText, {"row": 0}, OPENING, f"{word} {text}")

    def test_undo(self):
        desk = self.made(*OPENING, "strike meal 1250")
        for told in ("0:none", "1000:eats 0:none"):
            self.assert_asked(told, desk, "lines")
            self.assert_answer("ok", desk, "undo")
        self.assert_asked("1000", desk, "owed")
        self.assert_answer("ok", desk, "undo")
        self.assert_asked("1000:eats", desk, "lines")
        self.assert_answer("ok", desk, "undo")
        self.assert_asked("none", desk, "lines")
        self.assert_refused(Nothing, {}, desk, "undo")
        self.assert_asked("eats cut bound=1000 kind=meal", desk, "rules")

    def test_nothing(self):
        self.assert_refused_and_same(Nothing, {}, (), "undo")
        self.assert_refused_and_same(Nothing, {}, ("towns 1 2",), "undo")
        self.assert_refused_and_same(Nothing, {}, ("add meal 5", "undo"), "undo")
        self.assert_refused_and_same(Nothing, {}, ("rule a let", "rule b let", "drop a"), "undo")

    def test_undo_undoes_deeds_of_the_journey_alone(self):
        desk = self.made("add meal 5", "rule a let", "had 2", "rule b let", "drop a")
        for told in ("3", "5"):
            self.assert_asked(told, desk, "owed")
            self.assert_answer("ok", desk, "undo")
            self.assert_asked("b let", desk, "rules")
        self.assert_refused(Nothing, {}, desk, "undo")
        self.assert_asked("b let", desk, "rules")


class Rules(DeskTest):
    """Point 90, rules."""

    def test_behind_all_others(self):
        desk = self.made()
        written = []
        for name in NAMES:
            self.assert_answer("ok", desk, f"rule {name} cut bound=5 kind=meal")
            written.append(f"{name} cut bound=5 kind=meal")
            self.assert_asked(" ; ".join(written), desk, "rules")

    def test_the_first_rule_pays(self):
        desk = self.made("add meal 9", "rule a cut bound=5", "rule b let")
        self.assert_asked("5:a", desk, "lines")
        self.assert_answer("ok", desk, "drop a")
        self.assert_asked("9:b", desk, "lines")
        self.assert_answer("ok", desk, "rule a cut bound=5")
        self.assert_asked("9:b", desk, "lines")
        self.assert_asked("b let ; a cut bound=5", desk, "rules")

    def test_drop(self):
        lines = [f"rule {name} let" for name in NAMES]
        for name in NAMES:
            desk = self.made(*lines, f"drop {name}")
            self.assert_asked(" ; ".join(f"{other} let" for other in NAMES if other != name), desk, "rules")
        desk = self.made("rule a let", "drop a")
        self.assert_asked("-", desk, "rules")

    def test_no_book(self):
        self.assert_refused_and_same(NoBook, {}, ("rule a let", "rule b let"), "rule a refuse")
        self.assert_refused_and_same(NoBook, {}, [f"rule {name} let" for name in NAMES], "rule i let")

    def test_no_text(self):
        texts = ["", " ", "\n", "-", "a", "a pay", "A let", "a let ", " a let", "a  let", "a let bound=0", "meal 5"]
        texts += ["a let\nb let", "a let ; b let", "a let last=59"]
        for word, text in itertools.product(("rule", "apart"), texts):
            self.assert_refused_and_same(NoText, {"row": 0}, OPENING, f"{word} {text}")

    def test_no_text_ahead_of_no_book(self):
        lines = [f"rule {name} let" for name in NAMES]
        for word in ("rule", "apart"):
            self.assert_refused_and_same(NoText, {"row": 0}, lines, f"{word} a let bound=0")
            self.assert_refused_and_same(NoBook, {}, lines, f"{word} a let")

    def test_no_name(self):
        names = ("eat", "Eats", "a-b", "*", "-", "0", "none", "a\tb", "eats\n", "\n", "x" * 1900, "eats=", "~")
        for name in names:
            self.assert_refused_and_same(NoName, {"name": name}, OPENING, f"drop {name}")
        self.assert_refused_and_same(NoName, {"name": "eats"}, (), "drop eats")

    def test_rules_keep_where_a_new_journey_begins(self):
        desk = self.made("rule a let", "towns 1 1", "rule b refuse", "towns 2")
        self.assert_asked("a let ; b refuse", desk, "rules")

    def test_texts_of_rules(self):
        desk = self.made("rule a cut bound=5 kind=meal town=0 first=1 last=2 over=3 papered", "rule b refuse bare")
        self.assert_asked("a cut bound=5 kind=meal town=0 first=1 last=2 over=3 papered ; b refuse bare", desk, "rules")


class Questions(DeskTest):
    """Point 90, questions."""

    def test_owed_above_at_and_below_0(self):
        desk = self.made("rule a let", "add bed 12")
        for had, told in (("5", "7"), ("7", "0"), ("1", "-1"), ("1000000000", "-1000000001")):
            self.assert_answer("ok", desk, f"had {had}")
            self.assert_asked(told, desk, "owed")

    def test_owed_by_days(self):
        desk = self.made("towns 0 1 1 3", "had 5000", table=TABLE)
        self.assert_asked(str(1000 + 4010 + 7 - 5000), desk, "owed")

    def test_lines(self):
        desk = self.made("towns 0 0", "rule twin cut bound=5 kind=bed", "rule none refuse kind=fee")
        for line in ("add bed 9", "add bed 9", "add fee 9", "add meal 9", "add bed 2 day=1"):
            self.assert_answer("ok", desk, line)
        self.assert_asked("5:twin 0:twin 0:none 0:none 2:twin", desk, "lines")

    def test_twins(self):
        desk = self.made("add bed 9", "add bed 9 bare")
        self.assert_asked("1", desk, "twins")
        for line in ("add bed 9 heads=2", "add meal 9", "add meal 9"):
            self.assert_answer("ok", desk, line)
        self.assert_asked("1 2 4", desk, "twins")

    def test_no_rate_of_the_first_line(self):
        lines = ("towns 0 0", "add meal 5 day=1 money=3", "add meal 5 money=2", "add bed 5")
        for line in ("owed", "lines"):
            self.assert_refused_and_same(NoRate, {"money": 2, "day": 0}, lines, line, rates=RATES)
            self.assert_refused_and_same(NoRate, {"money": 2, "day": 0}, lines, line)
        desk = self.made(*lines, rates=RATES)
        self.assert_asked("none", desk, "twins")
        self.assert_answer("ok", desk, "strike meal 5 money=2")
        self.assert_refused(NoRate, {"money": 3, "day": 1}, desk, "owed")
        self.assert_answer("ok", desk, "strike meal 5 day=1 money=3")
        self.assert_asked("0", desk, "owed")

    def test_room(self):
        desk = self.made("towns 1 2", "rule a cut bound=500 kind=meal town=1", "rule b cut bound=70 kind=meal papered")
        for line, told in (
            ("room meal 0", "500"),
            ("room meal 1", "70"),
            ("room bed 0", "none"),
            ("room fee 1", "none"),
        ):
            self.assert_asked(told, desk, line)
        self.assert_answer("ok", desk, "rule c refuse kind=fee bare")
        self.assert_answer("ok", desk, "rule d let kind=fee")
        self.assert_asked("1000000", desk, "room fee 0")
        self.assert_answer("ok", desk, "rule e cut bound=1000001")
        self.assert_asked("1000000", desk, "room bed 1")

    def test_room_of_the_day(self):
        desk = self.made("towns 0 0 0", "rule a let kind=ride first=1 last=1", "rule b cut bound=9 kind=ride")
        self.assertEqual([desk.say(f"room ride {day}") for day in range(3)], ["9", "1000000", "9"])

    def test_room_of_no_day(self):
        for towns in ("0", "1 2", " ".join(["3"] * 30)):
            lines = (f"towns {towns}", "rule a let")
            for day in (len(towns.split(" ")), 30, 59, 60, int(LONG)):
                self.assert_refused_and_same(NoDay, {"day": day}, lines, f"room bed {day}")

    def test_apart(self):
        desk = self.made("rule a cut bound=10 kind=meal")
        for rule, told in (
            ("b refuse", "meal 0 bare 0 1"),
            ("b let", "bed 0 bare 0 1"),
            ("b let kind=meal", "meal 0 bare 0 11"),
            ("b let kind=meal town=2 first=7 over=40 papered", "meal 2 papered 7 41"),
            ("b let kind=sundry last=3 bare", "sundry 0 bare 0 1"),
            ("b refuse kind=bed", "none"),
            ("b cut bound=10 kind=meal", "none"),
            (f"b let over={MOST}", "none"),
            (f"b let kind=ride over={MOST - 1}", f"ride 0 bare 0 {MOST}"),
        ):
            self.assert_asked(told, desk, f"apart {rule}")
        self.assert_asked("a cut bound=10 kind=meal", desk, "rules")

    def test_apart_changes_nothing(self):
        lines = ("rule a let", "add meal 5")
        desk = self.made(*lines)
        self.assert_asked("bed 0 bare 0 1", desk, "apart b refuse")
        self.assert_refused(NoBook, {}, desk, "apart a refuse")
        self.assert_same(desk, self.made(*lines))

    def test_apart_no_book(self):
        self.assert_refused_and_same(NoBook, {}, ("rule a let",), "apart a let")
        self.assert_refused_and_same(NoBook, {}, [f"rule {name} let" for name in NAMES], "apart i let")


class Forms(DeskTest):
    """Point 91."""

    def assert_none_of(self, lines):
        """See that each of these is refused with NoLine, and changes nothing."""
        for told in ((), OPENING):
            desk = self.made(*told)
            ahead = self.answers(desk)
            for line in lines:
                with self.subTest(line=line):
                    self.assert_no_line(desk, line)
            self.assertEqual(self.answers(desk), ahead)
            self.assert_same(desk, self.made(*told))

    def test_things_that_are_no_text(self):
        self.assert_none_of([*no_texts(), ["undo"], ("owed",), {"undo": "undo"}, Desk(), ["towns", "0"]])

    def test_other_words(self):
        lines = ["", " ", "\n", "x", "ok", "none", "town", "spend", "owe", "line", "twin", "rooms", "adds", "-", "0"]
        lines += ["towns0", "had5", "undo;", "undo\n", "\nundo", "undo\t", "owed\n", "say undo", "spend meal 1", "days"]
        self.assert_none_of([*lines, "meal 1250", "eats let", "ok ok", "town 0", "rulebook", "x" * 2000])

    def test_great_letters(self):
        words = ["undo", "owed", "lines", "twins", "rules", "towns 0", "had 5", "drop eats", "room bed 0"]
        words += ["add meal 5", "strike meal 1250", "rule b let", "apart b let"]
        self.assert_none_of([word[0].upper() + word[1:] for word in words] + [word.upper() for word in words])
        self.assert_none_of(["room Bed 0", "room BED 0"])

    def test_blanks(self):
        words = ["undo", "owed", "lines", "twins", "rules", "towns 0", "towns 0 1", "had 5", "drop eats", "room bed 0"]
        self.assert_none_of([f" {word}" for word in words] + [f"{word} " for word in words])
        self.assert_none_of([word.replace(" ", "  ", 1) for word in words if " " in word])
        self.assert_none_of(["towns 0  1", "room bed  0", "room  bed 0", "drop  eats", "towns  0 1"])
        self.assert_none_of([word.replace(" ", "\t") for word in words if " " in word])
        self.assert_none_of([word.replace(" ", "\n") for word in words if " " in word])
        self.assert_none_of([f" {word} meal 1250" for word in ("add", "strike")])

    def test_more_or_fewer_words(self):
        alone = ("undo", "owed", "lines", "twins", "rules")
        self.assert_none_of([f"{word} {more}" for word in alone for more in ("0", "x", "", "undo")])
        self.assert_none_of(["towns", "towns ", "had", "had ", "had 5 5", "drop", "drop ", "drop eats eats"])
        self.assert_none_of(["room", "room ", "room bed", "room bed ", "room 0", "room bed 0 0", "room 0 bed"])

    def test_numbers(self):
        odd = ["00", "01", "+1", "-1", "-0", "1_0", "_1", "1.0", "1.", "0x1", "1e1", "x", "1,", "1\n", "\t1", "", "="]
        for number in (*odd, LONGER, "1" * 31, "0" * 31, "1" + "0" * 1900, "9" * 5000):
            self.assert_none_of([f"had {number}", f"towns {number}", f"towns 0 {number} 1", f"room bed {number}"])

    def test_numbers_of_thirty_figures(self):
        desk = self.made()
        for number in (LONG, "1" + "0" * 29, "1" * 30):
            self.assert_refused(NoShare, {}, desk, f"had {number}")
            self.assert_refused(NoJourney, {"part": "towns"}, desk, f"towns 0 {number}")
            self.assert_refused(NoDay, {"day": int(number)}, desk, f"room bed {number}")

    def test_kinds(self):
        self.assert_none_of([f"room {kind} 0" for kind in ("toll", "beds", "be", "Bed", "", "none", "0", "bed\n")])
        for kind in KINDS:
            self.assert_asked("none", self.made(), f"room {kind} 0")

    def test_the_blank_and_nothing_behind_it(self):
        for word in ("add", "strike", "rule", "apart"):
            self.assert_refused_and_same(NoText, {"row": 0}, OPENING, f"{word} ")
            self.assert_refused_and_same(NoText, {"row": 0}, OPENING, f"{word}  ")
            self.assert_none_of([word, f"{word}\n", f"{word}\tmeal 5", f"{word}-"])

    def test_no_line_ahead_of_all_else(self):
        # Each of these would be refused otherwise, if it were a line.
        self.assert_none_of(["towns 4 x", "towns 4 04", "towns 4 ", "room toll 9", "room bed 09", "had 00"])
        self.assert_none_of(["undo undo", "drop a b", "owed 1", "lines x", f"towns {' '.join(['0'] * 31)} x"])
        desk = self.made("add meal 5 money=3")
        for line in ("owed ", "lines 0", "owed owed"):
            self.assert_no_line(desk, line)

    def test_lines_near_by(self):
        chance, seen = random.Random(91), set()
        for _ in range(60):
            desk, accepted, pool = self.made(), [], drawn_pool(chance, 3)
            for _ in range(60):
                line = near(chance, line_of(*drawn_words(chance, 3, pool)))
                held = FORMS.fullmatch(line) is not None
                seen.add(held)
                with self.subTest(line=line):
                    try:
                        desk.say(line)
                        accepted.append(line)
                        self.assertTrue(held)
                    except NoLine:
                        self.assertFalse(held)
                    except (ValueError, LookupError):
                        self.assertTrue(held)
            other = Desk()
            for line in accepted:
                other.say(line)
            self.assert_same(desk, other)
        self.assertEqual(seen, {True, False})


def drawn_pool(chance, days):
    """Draw few spendings, so that the same ones and twins are told again and again."""
    pool = [drawn_spending(chance, days) for _ in range(6)]
    return pool + [spending.but(paper=not spending.paper) for spending in pool]


def near(chance, line):
    """Tell a line that is near another one, or the same."""
    at = chance.randrange(len(line) + 1)
    words = line.split(" ")
    place = chance.randrange(len(words))
    changes = (
        lambda: line[:at] + line[at + 1:],
        lambda: line[:at] + chance.choice(" 0123456789-+_=abdemot\n\t") + line[at:],
        lambda: " ".join(words[:place] + words[place + 1:]),
        lambda: " ".join(words[:place] + words[place:place + 1] + words[place:]),
        lambda: " ".join(chance.sample(words, len(words))),
        lambda: line,
        lambda: line,
    )
    return chance.choice(changes)()


def drawn_words(chance, days, pool):
    """Draw a word, and what stands behind it or None; most of these are no refusals."""
    word = chance.choice((*TELLING, *["add"] * 8, "strike", "strike", "undo", "rule", *ASKING))
    if word in ("add", "strike"):
        return word, chance.choice(pool)
    if word == "had":
        return word, chance.choice((0, 1, 2, 500, 10 ** 9, 10 ** 9 + 1))
    if word in ("rule", "apart"):
        return word, drawn_rule(chance, chance.choice((*NAMES, "twin", "none")), 0.7, (0, 0, 1, 40))
    if word == "drop":
        return word, chance.choice((*NAMES, "twin", "x-y"))
    if word == "room":
        return word, (chance.choice(KINDS), chance.randrange(days + 1))
    if word == "towns":
        return word, drawn_towns(chance, days)
    return word, None


class Sessions(DeskTest):
    """Point 90, lines drawn by chance, answered as a journey and a book that were told the same."""

    def outcome(self, ask, *args):
        """Tell the answer, or the refusal's class and fields."""
        try:
            return ask(*args)
        except (ValueError, LookupError) as refusal:
            return type(refusal), vars(refusal)

    def test_drawn_by_chance(self):
        chance, seen = random.Random(90), set()
        for turn in range(80):
            rates = drawn_rates(chance) if turn % 2 else None
            table = tuple(chance.choice((0, 7, 1999, 10 ** 6)) for _ in range(4)) if turn % 3 else None
            desk, model, pool = Desk(rates, table), Model(rates, table), drawn_pool(chance, 4)
            for _ in range(120):
                word, thing = drawn_words(chance, 4, pool)
                line = line_of(word, thing)
                told = self.outcome(model.answer, word, thing)
                seen.add((word, told[0] if isinstance(told, tuple) else str))
                with self.subTest(line=line):
                    self.assertEqual(self.outcome(desk.say, line), told)
                for question in ("owed", "lines", "twins", "rules"):
                    self.assertEqual(self.outcome(desk.say, question), self.outcome(model.answer, question))
        wanted = {(word, str) for word in (*TELLING, *ASKING)}
        wanted |= {("add", NoDay), ("strike", Absent), ("had", NoShare), ("undo", Nothing), ("rule", NoBook)}
        wanted |= {("drop", NoName), ("owed", NoRate), ("lines", NoRate), ("room", NoDay), ("apart", NoBook)}
        self.assertEqual(wanted - seen, set())

    def test_two_desks_go_on_by_themselves(self):
        one, other = Desk(RATES, TABLE), Desk(RATES, TABLE)
        for line in OPENING:
            self.assert_answer("ok", one, line)
        self.assert_same(other, Desk(RATES, TABLE))
        self.assert_answer("ok", other, "towns 1 1")
        self.assert_answer("ok", other, "rule b let")
        self.assert_asked("eats cut bound=1000 kind=meal", one, "rules")
        self.assert_asked("1000:eats 0:none", one, "lines")
        self.assert_same(one, self.made(*OPENING, rates=RATES, table=TABLE))

    def test_all_kinds_of_rules(self):
        for deed, bounds in BOUNDS.items():
            for bound in bounds:
                rule = Rule("a", deed, bound)
                desk = self.made(line_of("rule", rule), "add ride 101")
                self.assert_asked(f"{rule.pays(101)}:a", desk, "lines")
                self.assert_asked(rule_text(rule), desk, "rules")


if __name__ == "__main__":
    unittest.main()
