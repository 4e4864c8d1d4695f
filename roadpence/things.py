"""Whether a thing of whatever kind is what is asked for."""

KINDS = ("bed", "fee", "meal", "ride", "sundry")
LAST_TOWN = 3
LAST_DAY = 59
LAST_MONEY = 3
MOST_SHARE = 1000000000000


def is_whole(thing, least, most):
    """Tell whether a thing is a whole number from least to most."""
    # A truth is an int to Python, but no whole number here.
    return isinstance(thing, int) and not isinstance(thing, bool) and least <= thing <= most


def is_truth(thing):
    """Tell whether a thing is True or False."""
    return isinstance(thing, bool)


def is_kind(thing):
    """Tell whether a thing is a kind of spending."""
    return thing in KINDS


def is_town(thing):
    """Tell whether a thing is a town."""
    return is_whole(thing, 0, LAST_TOWN)


def is_day(thing):
    """Tell whether a thing is a day."""
    return is_whole(thing, 0, LAST_DAY)


def is_share(thing):
    """Tell whether a thing is a share."""
    return is_whole(thing, 0, MOST_SHARE)
