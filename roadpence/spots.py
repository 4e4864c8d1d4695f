"""Spots and shares: refusing what is none."""

from roadpence.errors import NoShare, NoSpot
from roadpence.things import is_day, is_kind, is_share, is_town, is_truth


def is_spot(thing):
    """Tell whether a thing is a spot."""
    if not isinstance(thing, tuple) or len(thing) != 5:
        return False
    kind, town, paper, day, share = thing
    return is_kind(kind) and is_town(town) and is_truth(paper) and is_day(day) and is_share(share)


def check_spot(thing):
    """Refuse what is no spot."""
    if not is_spot(thing):
        raise NoSpot("a spot is a tuple (kind, town, paper, day, share)")


def check_share(thing):
    """Refuse what is no share."""
    if not is_share(thing):
        raise NoShare("a share is a whole number from 0 to 10 ** 12")
