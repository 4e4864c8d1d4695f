"""Spendings: what a traveller spent, and which of them are twins."""

from roadpence.errors import NoHeads, NoSpending
from roadpence.things import LAST_MONEY, is_day, is_kind, is_truth, is_whole

MOST_AMOUNT = 1000000
MOST_HEADS = 6


def check_heads(heads):
    """Refuse what is no number of heads."""
    if is_whole(heads, 0, 0):
        raise NoHeads(heads)
    if not is_whole(heads, 1, MOST_HEADS):
        raise NoSpending("heads")


def check_parts(kind, amount, day, paper, heads, money):
    """Refuse the first of these that is no part of a spending."""
    if not is_kind(kind):
        raise NoSpending("kind")
    if not is_whole(amount, 1, MOST_AMOUNT):
        raise NoSpending("amount")
    if not is_day(day):
        raise NoSpending("day")
    if not is_truth(paper):
        raise NoSpending("paper")
    check_heads(heads)
    if not is_whole(money, 0, LAST_MONEY):
        raise NoSpending("money")


class Spending:
    """One thing that was paid for; it never changes."""

    def __init__(self, kind, amount, day=0, paper=True, heads=1, money=0):
        check_parts(kind, amount, day, paper, heads, money)
        self.kind = kind
        self.amount = amount
        self.day = day
        self.paper = paper
        self.heads = heads
        self.money = money

    def __eq__(self, other):
        return (
            isinstance(other, Spending)
            and self.kind == other.kind
            and self.amount == other.amount
            and self.day == other.day
            and self.paper == other.paper
            and self.heads == other.heads
            and self.money == other.money
        )

    def __repr__(self):
        parts = [repr(self.kind), repr(self.amount)]
        if self.day != 0:
            parts.append(f"day={self.day}")
        if not self.paper:
            parts.append("paper=False")
        if self.heads != 1:
            parts.append(f"heads={self.heads}")
        if self.money != 0:
            parts.append(f"money={self.money}")
        return f"Spending({', '.join(parts)})"

    def but(self, kind=None, amount=None, day=None, paper=None, heads=None, money=None):
        """Tell the spending that is alike but for what is handed in."""
        return Spending(
            self.kind if kind is None else kind,
            self.amount if amount is None else amount,
            self.day if day is None else day,
            self.paper if paper is None else paper,
            self.heads if heads is None else heads,
            self.money if money is None else money,
        )


def are_twins(one, other):
    """Tell whether two spendings are of one kind, amount, day and money."""
    return (
        one.kind == other.kind
        and one.amount == other.amount
        and one.day == other.day
        and one.money == other.money
    )
