"""What is paid for each line of a journey, what its days pay, and what is owed."""

from roadpence.errors import NoTable
from roadpence.journeys import WHOLE_DAY, Journey
from roadpence.moneys import share_of, told_rates
from roadpence.things import LAST_TOWN, is_whole

MOST_PAY = 1000000
NO_PAY = (0, 0, 0, 0)


def or_none(thing):
    """Tell a thing, or the word that is written where there is none."""
    return "none" if thing is None else thing


def own_copy(thing):
    """Tell a thing that stays as it is, whatever is done to what was handed in."""
    if isinstance(thing, list):
        return [own_copy(part) for part in thing]
    if isinstance(thing, tuple):
        return tuple([own_copy(part) for part in thing])
    if isinstance(thing, dict):
        return {key: own_copy(worth) for key, worth in thing.items()}
    if isinstance(thing, Journey):
        return thing.twin()
    return thing


class Verdict:
    """What was done with a line: how much of its share is paid, and by which rule."""

    def __init__(self, line, share, paid, name):
        self.line = own_copy(line)
        self.share = own_copy(share)
        self.paid = own_copy(paid)
        self.name = own_copy(name)

    def __eq__(self, other):
        return (
            isinstance(other, Verdict)
            and self.line == other.line
            and self.share == other.share
            and self.paid == other.paid
            and self.name == other.name
        )

    def __repr__(self):
        return f"{self.line!r}: {self.paid} of {self.share} by {or_none(self.name)}"


def is_table(thing):
    """Tell whether a thing is a table of what the days in each town pay."""
    if not isinstance(thing, tuple) or len(thing) != LAST_TOWN + 1:
        return False
    return all([is_whole(pay, 0, MOST_PAY) for pay in thing])


def check_table(table):
    """Refuse what is no table."""
    if not is_table(table):
        raise NoTable("a table is a tuple of four whole numbers from 0 to 10 ** 6")


def told_table(table):
    """Tell the table that is handed in, None standing for the one that pays nothing."""
    told = NO_PAY if table is None else table
    check_table(told)
    return told


def verdict_of(line, town, book, share):
    """Tell the verdict of a line that has no twin ahead."""
    paid, name = book.paid_of((line.kind, town, line.paper, line.day, share))
    return Verdict(line, share, paid, name)


def verdicts(journey, book, rates=None):
    """Tell the verdicts of the lines of a journey, in their order."""
    known = told_rates(rates)
    twins = journey.twins()
    told = []
    for at, line in enumerate(journey.lines()):
        share = share_of(line, known)
        if at in twins:
            told.append(Verdict(line, share, 0, "twin"))
        else:
            told.append(verdict_of(line, journey.town_on(line.day), book, share))
    return told


def tenths_of(journey):
    """Tell of each day of a journey how many tenths of it count."""
    many = len(journey.towns)
    if many == 1:
        return [min(journey.begun, journey.ended)]
    return [journey.begun] + [WHOLE_DAY] * (many - 2) + [journey.ended]


def days_pay(journey, table):
    """Tell what the days of a journey pay by a table."""
    check_table(table)
    return sum([table[town] * tenths // WHOLE_DAY for town, tenths in zip(journey.towns, tenths_of(journey))])


def owed(journey, book, rates=None, table=None):
    """Tell what is owed for a journey, less the sums had: perhaps below 0."""
    known = told_rates(rates)
    days = days_pay(journey, told_table(table))
    paid = sum([verdict.paid for verdict in verdicts(journey, book, known)])
    return days + paid - sum(journey.sums)


def difference(before, after, book, rates=None, table=None):
    """Tell what is owed for the second journey less what is owed for the first one."""
    ahead = owed(before, book, rates, table)
    return owed(after, book, rates, table) - ahead
