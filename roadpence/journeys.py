"""Journeys: their days, what was spent on these, and the sums had ahead."""

from roadpence.errors import Absent, NoDay, NoJourney, NoShare, Nothing, TooMany
from roadpence.spendings import are_twins
from roadpence.things import is_town, is_whole

MOST_DAYS = 30
WHOLE_DAY = 10
MOST_LINES = 40
MOST_SUM = 1000000000
MOST_SUMS = 10


def are_towns(thing):
    """Tell whether a thing is the towns of a journey."""
    if not isinstance(thing, tuple) or not 1 <= len(thing) <= MOST_DAYS:
        return False
    return all([is_town(town) for town in thing])


def check_parts(towns, begun, ended):
    """Refuse the first of these that is no part of a journey."""
    if not are_towns(towns):
        raise NoJourney("towns")
    if not is_whole(begun, 0, WHOLE_DAY):
        raise NoJourney("begun")
    if not is_whole(ended, 0, WHOLE_DAY):
        raise NoJourney("ended")


def check_room(many, most):
    """Refuse what would be too many."""
    if many > most:
        raise TooMany(many, most)


def rank_of(line):
    """Tell what the lines of a journey rise by."""
    return (line.day, line.kind, line.amount, line.money, line.heads, not line.paper)


def place_of(spending, spendings):
    """Tell the first place of what equals a spending, or None."""
    for at, other in enumerate(spendings):
        if other == spending:
            return at
    return None


class Journey:
    """Days in towns, what was spent on them and the sums had; deeds change it, and can be undone."""

    def __init__(self, towns, begun=10, ended=10):
        check_parts(towns, begun, ended)
        self.towns = towns
        self.begun = begun
        self.ended = ended
        self.spent = ()
        self.sums = ()
        # What stood ahead of each deed that stands: tuples, so twins may hold the same ones.
        self.past = []

    def __eq__(self, other):
        return (
            isinstance(other, Journey)
            and self.towns == other.towns
            and self.begun == other.begun
            and self.ended == other.ended
            and self.lines() == other.lines()
            and sorted(self.sums) == sorted(other.sums)
        )

    def __len__(self):
        return len(self.spent)

    def __repr__(self):
        # Nothing is promised of this, but journeys that are equal are shown alike.
        return f"Journey({self.towns!r}, {self.begun}, {self.ended}, {self.lines()!r}, {sorted(self.sums)!r})"

    def become(self, spent, sums):
        """Let other spendings and sums stand from now on, until this is undone."""
        self.past.append((self.spent, self.sums))
        self.spent = spent
        self.sums = sums

    def spend(self, spending):
        """Tell it a spending."""
        if not self.has_day(spending.day):
            raise NoDay(spending.day)
        check_room(len(self.spent) + 1, MOST_LINES)
        self.become(self.spent + (spending,), self.sums)

    def strike(self, spending):
        """Take a spending that equals one out."""
        at = place_of(spending, self.spent)
        if at is None:
            raise Absent("the journey has no such spending")
        self.become(self.spent[:at] + self.spent[at + 1:], self.sums)

    def had(self, amount):
        """Tell it a sum had ahead."""
        if not is_whole(amount, 1, MOST_SUM):
            raise NoShare("a sum had is a whole number from 1 to 10 ** 9")
        check_room(len(self.sums) + 1, MOST_SUMS)
        self.become(self.spent, self.sums + (amount,))

    def undo(self):
        """Undo the last deed that stands."""
        if len(self.past) == 0:
            raise Nothing("there is no deed left to undo")
        self.spent, self.sums = self.past.pop()

    def twin(self):
        """Tell another journey with what stands and what can be undone."""
        other = Journey(self.towns, self.begun, self.ended)
        other.spent = self.spent
        other.sums = self.sums
        other.past = list(self.past)
        return other

    def lines(self):
        """Tell its spendings, in the order of its lines."""
        return sorted(self.spent, key=rank_of)

    def has_day(self, day):
        """Tell whether a thing is one of its days."""
        return is_whole(day, 0, len(self.towns) - 1)

    def town_on(self, day):
        """Tell the town of a day."""
        if not self.has_day(day):
            raise NoDay(day)
        return self.towns[day]

    def twins(self):
        """Tell the places of the lines that have a twin ahead."""
        lines = self.lines()
        # Lines rise by all that makes twins first, so twins stand side by side.
        return [at for at in range(1, len(lines)) if are_twins(lines[at - 1], lines[at])]
