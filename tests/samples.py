"""Things of whatever kind, for the tests to hand in where another kind is asked for."""

from roadpence.books import Rulebook
from roadpence.desk import Desk
from roadpence.errors import NoRates
from roadpence.journeys import Journey
from roadpence.rules import Rule
from roadpence.settling import Verdict
from roadpence.spendings import Spending

THIRTY_FIGURES = 10 ** 30 - 1


def deep_list(depth):
    """Tell a list within lists, so many deep."""
    thing = []
    for _ in range(depth - 1):
        thing = [thing]
    return thing


def truths():
    return [True, False]


def far_numbers():
    """Tell numbers that are beyond every bound."""
    return [THIRTY_FIGURES, -THIRTY_FIGURES]


def texts():
    """Tell texts that are no kind."""
    return ["", "x", "0", "1", "True", "None", "\n\t", "Meal", "MEAL", "meals", " meal", "meal ", "mea", "x" * 2000]


def lists():
    return [[], [1], [True], ["meal"], [None, [1, (2,)]], deep_list(80)]


def tuples():
    return [(), (1,), (True,), ("meal",), (1, 0, 1, 1), ((1, 0, 1, 1),)]


def dicts():
    return [{}, {1: 1}, {"meal": "meal"}, {0: [1], "x": (2,)}]


def objects():
    """Tell objects of the package."""
    told = [Spending("meal", 1), Rule("eats"), Rulebook(), Rulebook([Rule("eats")]), NoRates("none")]
    return [*told, Journey((0,)), Verdict(Spending("meal", 1), 1, 1, "eats"), Desk()]


def no_numbers():
    """Tell a thing of each kind but a number."""
    return [None, "meal", *truths(), *texts(), *lists(), *tuples(), *dicts(), *objects()]


def no_truths():
    """Tell a thing of each kind but a truth."""
    return [None, 0, 1, "meal", *far_numbers(), *texts(), *lists(), *tuples(), *dicts(), *objects()]


def no_texts():
    """Tell a thing of each kind but a text."""
    return [None, 0, 1, *far_numbers(), *truths(), *lists(), *tuples(), *dicts(), *objects()]


def no_kinds():
    """Tell a thing of each kind but a kind of spending."""
    return [*no_texts(), *texts()]


def whatever():
    """Tell a thing of each kind."""
    return ["meal", *no_kinds()]
