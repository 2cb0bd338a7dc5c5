"""Dealings of bridges to crews, and huddles, by which one can see that no dealing takes more."""

from bridgecrews.asking import are_groups, each_once, put_together, rises_below
from bridgecrews.pieces import ring_over


def is_dealing(town, dealing):
    for own in dealing:
        if not rises_below(own, len(town.bridges)) or ring_over(town, own) is not None:
            return False
    return each_once(dealing)


def are_huddles(town, huddles):
    return are_groups(huddles, town.quarters, 2)


def lies_within(ends, huddles):
    return any([ends[0] in huddle and ends[1] in huddle for huddle in huddles])


def most_by_huddles(town, some, crews, huddles):
    free = [bridge for bridge in some if not lies_within(town.bridges[bridge], huddles)]
    return len(free) + crews * sum([len(huddle) - 1 for huddle in huddles])


# Whether no dealing to as many crews takes more of some bridges, which were asked already.
def takes_most_of(town, some, dealing, huddles):
    if not is_dealing(town, dealing) or not are_huddles(town, huddles):
        return False
    taken = len(set(some) & set(put_together(dealing)))
    return taken == most_by_huddles(town, some, len(dealing), huddles)


def shows_most(town, dealing, huddles):
    return takes_most_of(town, list(range(len(town.bridges))), dealing, huddles)
