"""Dealings of bridges to crews, and huddles, by which one can see that no dealing takes more."""

from bridgecrews.asking import are_groups, each_once, rises_below
from bridgecrews.partings import bridges_within
from bridgecrews.pieces import ring_over


def is_dealing(town, dealing):
    for own in dealing:
        if not rises_below(own, len(town.bridges)) or ring_over(town, own) is not None:
            return False
    return each_once(dealing)


def are_huddles(town, huddles):
    return are_groups(huddles, town.quarters, 2)


def most_by_huddles(town, crews, huddles):
    # No quarter is in two huddles, so no bridge lies within two and none is taken off twice.
    free = len(town.bridges) - sum([len(bridges_within(town, huddle)) for huddle in huddles])
    return free + crews * sum([len(huddle) - 1 for huddle in huddles])


def shows_most(town, dealing, huddles):
    if not is_dealing(town, dealing) or not are_huddles(town, huddles):
        return False
    return sum([len(own) for own in dealing]) == most_by_huddles(town, len(dealing), huddles)
