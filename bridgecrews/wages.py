"""Wages of bridges: the dearest dealing, and the cheapest one in which each crew joins the whole town."""

from bridgecrews.asking import check_crews, check_some, check_wages, put_together
from bridgecrews.dealings import takes_most_of
from bridgecrews.joining import joining_crews
from bridgecrews.most import deal_by_rows


def level_shows(town, some, dealing, huddles):
    check_some(some, town.bridges)
    return takes_most_of(town, some, dealing, huddles)


def sum_of(dealing, wages):
    return sum([wages[bridge] for bridge in put_together(dealing)])


def bridges_for(wage, wages):
    return [bridge for bridge, own in enumerate(wages) if own == wage]


# Of the bridges with the wages up to each one in the order, no dealing takes more than this one. So none that takes as
# many in all has a better sum.
def dealt_by_wages(town, crews, wages, order):
    told = deal_by_rows(town, crews, [bridges_for(wage, wages) for wage in order])
    return (sum_of(told[0], wages), told[0], list(zip(order, told[1])))


# No wage is below nought, so no dealing that takes fewer bridges is dearer.
def dearest_dealing(town, crews, wages):
    check_wages(wages, town.bridges)
    check_crews(crews)
    return dealt_by_wages(town, crews, wages, list(reversed(sorted(set(wages)))))


# Where each crew can have a joining, the most that can be dealt out is a joining for each.
def cheapest_joining(town, crews, wages):
    check_wages(wages, town.bridges)
    told = joining_crews(town, crews)
    if told[0] == "parting":
        return told
    return ("crews",) + dealt_by_wages(town, crews, wages, sorted(set(wages)))
