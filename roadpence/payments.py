"""Payments: what a deed pays of each share.

A payment is a tuple (hundredths, most): so many hundredths of a share, down to a whole penny,
but no more than most. As all deeds are told in this one form, any two can be held against each
other. More of a greater share is never less, so the next share of which more is paid can be
reckoned, and the shares between need not be gone through.
"""

from roadpence.things import MOST_SHARE

# No deed pays more than this of any share.
NO_BOUND = 1000000000000000


def payment_of(deed, bound):
    """Tell the payment of a deed with its bound."""
    if deed == "let":
        return (100, NO_BOUND)
    if deed == "cut":
        return (100, bound)
    if deed == "each":
        return (100 * bound, NO_BOUND)
    if deed == "hundredths":
        return (bound, NO_BOUND)
    return (0, NO_BOUND)


def paid_by(payment, share):
    """Tell what a payment pays of a share."""
    hundredths, most = payment
    return min(hundredths * share // 100, most)


def most_in_full(payment):
    """Tell the greatest share that is paid as it is; of shares above 0 there may be none."""
    hundredths, most = payment
    # Fewer hundredths fall short of each share above 0, and more go beyond it.
    return min(most, MOST_SHARE) if hundredths == 100 else 0


def least_above(payment, paid):
    """Tell the least share of which more than paid is paid; one beyond all shares where there is none."""
    hundredths, most = payment
    if hundredths == 0 or most <= paid:
        return MOST_SHARE + 1
    return (100 * (paid + 1) + hundredths - 1) // hundredths


def first_unlike(one, other, low, high):
    """Tell the least share from low to high of which two payments pay unlike amounts, or None."""
    share = low
    while share <= high:
        paid = paid_by(one, share)
        if paid != paid_by(other, share):
            return share
        # By the same hundredths both go on alike until the lesser bound is passed. By others they part at the
        # share 100 at the latest, or at the next one of which either pays more: so the steps are few.
        level = min(one[1], other[1]) if one[0] == other[0] else paid
        share = min(least_above(one, level), least_above(other, level))
    return None
