"""Moneys: what one of each is worth in pennies, and the shares of spendings."""

from roadpence.errors import NoRate, NoRates
from roadpence.things import LAST_MONEY, is_day, is_whole

MOST_ROWS = 12
MOST_SIDE = 1000000


def is_row(thing):
    """Tell whether a thing is a row of rates."""
    if not isinstance(thing, tuple) or len(thing) != 4:
        return False
    money, day, top, bottom = thing
    if not is_whole(money, 1, LAST_MONEY) or not is_day(day):
        return False
    return is_whole(top, 1, MOST_SIDE) and is_whole(bottom, 1, MOST_SIDE)


def are_rates(thing):
    """Tell whether a thing is rates."""
    if not isinstance(thing, tuple) or len(thing) > MOST_ROWS:
        return False
    # Rows that rise, no two of one money and day, are rows whose money and day rise.
    ahead = (0, 0)
    for row in thing:
        if not is_row(row) or row[:2] <= ahead:
            return False
        ahead = row[:2]
    return True


def check_rates(rates):
    """Refuse what are no rates."""
    if not are_rates(rates):
        raise NoRates("rates are a rising tuple of at most twelve tuples (money, day, top, bottom)")


def told_rates(rates):
    """Tell the rates that are handed in, None standing for none at all."""
    told = () if rates is None else rates
    check_rates(told)
    return told


def rate_on(rates, money, day):
    """Tell the rate of a money on a day, as a tuple (top, bottom)."""
    check_rates(rates)
    if money == 0:
        return (1, 1)
    rate = None
    for row in rates:
        if row[0] == money and row[1] <= day:
            rate = row[2:]
    if rate is None:
        raise NoRate(money, day)
    return rate


def share_of(spending, rates=None):
    """Tell the share of a spending in whole pennies, half a penny up."""
    top, bottom = rate_on(told_rates(rates), spending.money, spending.day)
    whole = spending.amount * top
    parts = bottom * spending.heads
    # To round at each step could tell another penny, so there is one division.
    return (2 * whole + parts) // (2 * parts)
