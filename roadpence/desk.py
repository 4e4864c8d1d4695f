"""A desk: it is told lines, keeps a journey and a book of rules, and answers with texts."""

from roadpence.books import Rulebook
from roadpence.cases import first_apart
from roadpence.forms import read_line
from roadpence.journeys import Journey
from roadpence.moneys import told_rates
from roadpence.settling import or_none, owed, told_table, verdicts
from roadpence.texts import book_text, paper_word, read_rule, read_spending

DONE = "ok"


def joined(words):
    """Tell words with blanks between, or that there are none."""
    return " ".join(words) if len(words) > 0 else "none"


def begin(desk, towns):
    """Begin a new journey."""
    desk.journey = Journey(towns)
    return DONE


def add(desk, text):
    """Tell the journey a spending."""
    desk.journey.spend(read_spending(text))
    return DONE


def strike(desk, text):
    """Take a spending out of the journey."""
    desk.journey.strike(read_spending(text))
    return DONE


def had(desk, amount):
    """Tell the journey a sum had ahead."""
    desk.journey.had(amount)
    return DONE


def undo(desk):
    """Undo the last deed of the journey."""
    desk.journey.undo()
    return DONE


def put_rule(desk, text):
    """Put a rule behind all others."""
    desk.book = desk.book.with_rule(read_rule(text))
    return DONE


def drop(desk, name):
    """Go on without the rule of a name."""
    desk.book = desk.book.without(name)
    return DONE


def tell_owed(desk):
    """Tell what is owed for the journey."""
    return f"{owed(desk.journey, desk.book, desk.rates, desk.table)}"


def tell_lines(desk):
    """Tell of each line what is paid, and by which rule."""
    told = verdicts(desk.journey, desk.book, desk.rates)
    return joined([f"{verdict.paid}:{or_none(verdict.name)}" for verdict in told])


def tell_twins(desk):
    """Tell the places of the lines that have a twin ahead."""
    return joined([f"{at}" for at in desk.journey.twins()])


def tell_room(desk, kind, day):
    """Tell the greatest share of a kind that is paid in full on a day."""
    return f"{or_none(desk.book.room(kind, desk.journey.town_on(day), day))}"


def tell_rules(desk):
    """Tell the rules on one line."""
    return book_text(desk.book).replace("\n", " ; ")


def tell_apart(desk, text):
    """Tell the first spot of which the book would pay otherwise with a rule ahead of all others."""
    spot = first_apart(desk.book, desk.book.with_rule(read_rule(text), 0))
    if spot is None:
        return "none"
    kind, town, paper, day, share = spot
    return f"{kind} {town} {paper_word(paper)} {day} {share}"


ANSWERS = {
    "towns": begin,
    "add": add,
    "strike": strike,
    "had": had,
    "undo": undo,
    "rule": put_rule,
    "drop": drop,
    "owed": tell_owed,
    "lines": tell_lines,
    "twins": tell_twins,
    "room": tell_room,
    "rules": tell_rules,
    "apart": tell_apart,
}


class Desk:
    """It keeps a journey and a book, and answers lines."""

    def __init__(self, rates=None, table=None):
        self.rates = told_rates(rates)
        self.table = told_table(table)
        self.journey = Journey((0,))
        self.book = Rulebook()

    def say(self, line):
        """Tell the answer to a line."""
        word, told = read_line(line)
        answer = ANSWERS[word]
        return answer(self, *told)
