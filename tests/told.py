"""Journeys that were told what a test tells."""

from roadpence.journeys import Journey

TOWNS = (2, 0, 3)


def made(spendings=(), sums=(), towns=TOWNS, begun=10, ended=10):
    """Tell a journey that was told these."""
    journey = Journey(towns, begun, ended)
    for spending in spendings:
        journey.spend(spending)
    for amount in sums:
        journey.had(amount)
    return journey
