"""Rules: which spots are met, and how much of their shares is paid."""

from roadpence.errors import NoRule
from roadpence.payments import paid_by, payment_of
from roadpence.spots import check_share, check_spot
from roadpence.things import LAST_DAY, is_day, is_kind, is_share, is_town, is_truth, is_whole

LETTERS = "abcdefghijklmnopqrstuvwxyz"
MOST_LETTERS = 8
# How great the bound of each deed may be.
MOST_BOUNDS = {"let": 0, "cut": 1000000000000, "each": 1000, "hundredths": 100, "refuse": 0}


def is_name(thing):
    """Tell whether a thing is a name of a rule."""
    if not isinstance(thing, str) or not 1 <= len(thing) <= MOST_LETTERS:
        return False
    return all([sign in LETTERS for sign in thing])


def is_deed(thing):
    """Tell whether a thing is a deed."""
    return isinstance(thing, str) and thing in MOST_BOUNDS


def check_parts(name, deed, bound, kind, town, first, last, over, paper):
    """Refuse the first of these that is no part of a rule."""
    if not is_name(name):
        raise NoRule("name")
    if not is_deed(deed):
        raise NoRule("deed")
    if not is_whole(bound, 0, MOST_BOUNDS[deed]):
        raise NoRule("bound")
    if kind is not None and not is_kind(kind):
        raise NoRule("kind")
    if town is not None and not is_town(town):
        raise NoRule("town")
    if not is_day(first):
        raise NoRule("first")
    if not is_whole(last, first, LAST_DAY):
        raise NoRule("last")
    if not is_share(over):
        raise NoRule("over")
    if paper is not None and not is_truth(paper):
        raise NoRule("paper")


class Rule:
    """Which spots it meets, and what it pays of a share; it never changes."""

    def __init__(self, name, deed="let", bound=0, kind=None, town=None, first=0, last=59, over=0, paper=None):
        check_parts(name, deed, bound, kind, town, first, last, over, paper)
        self.name = name
        self.deed = deed
        self.bound = bound
        self.kind = kind
        self.town = town
        self.first = first
        self.last = last
        self.over = over
        self.paper = paper
        self.payment = payment_of(deed, bound)

    def __eq__(self, other):
        return (
            isinstance(other, Rule)
            and self.name == other.name
            and self.deed == other.deed
            and self.bound == other.bound
            and self.kind == other.kind
            and self.town == other.town
            and self.first == other.first
            and self.last == other.last
            and self.over == other.over
            and self.paper == other.paper
        )

    def __repr__(self):
        parts = [repr(self.name)]
        if self.deed != "let":
            parts.append(f"deed={self.deed!r}")
        if self.bound != 0:
            parts.append(f"bound={self.bound}")
        if self.kind is not None:
            parts.append(f"kind={self.kind!r}")
        if self.town is not None:
            parts.append(f"town={self.town}")
        if self.first != 0:
            parts.append(f"first={self.first}")
        if self.last != LAST_DAY:
            parts.append(f"last={self.last}")
        if self.over != 0:
            parts.append(f"over={self.over}")
        if self.paper is not None:
            parts.append(f"paper={self.paper}")
        return f"Rule({', '.join(parts)})"

    def fits(self, kind, town, paper, day):
        """Tell whether it meets spots with these, if their shares are greater than over."""
        return (
            (self.kind is None or self.kind == kind)
            and (self.town is None or self.town == town)
            and (self.paper is None or self.paper == paper)
            and self.first <= day <= self.last
        )

    def meets(self, spot):
        """Tell whether it meets a spot."""
        check_spot(spot)
        kind, town, paper, day, share = spot
        return self.fits(kind, town, paper, day) and share > self.over

    def pays(self, share):
        """Tell what it pays of a share."""
        check_share(share)
        return paid_by(self.payment, share)
