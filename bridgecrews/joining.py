"""Crews that each join the whole town, or a parting that shows that so many can't."""

from bridgecrews.asking import check_crews, check_not_alone
from bridgecrews.most import deal_most


def parting_around(quarters, huddles):
    alone = [[quarter] for quarter in range(quarters) if not any([quarter in huddle for huddle in huddles])]
    return sorted(huddles + alone)


# The crews have all bridges between the parts, and within each huddle each crew has as many as it can. So where a
# crew lacks a bridge, there are fewer between the parts than all crews would need there.
def joined_or_parted(town, crews):
    told = deal_most(town, crews)
    if all([len(own) == town.quarters - 1 for own in told[0]]):
        return ("crews", told[0])
    return ("parting", parting_around(town.quarters, told[1]))


def joining_crews(town, crews):
    check_crews(crews)
    return joined_or_parted(town, crews)


def most_joining(town):
    check_not_alone(town.quarters)
    dealing = []
    told = joined_or_parted(town, 1)
    while told[0] == "crews":
        dealing = told[1]
        told = joined_or_parted(town, len(dealing) + 1)
    return (len(dealing), dealing, told[1])
