"""Fractions, and bridges told several times over, by which parts of crews are dealt out as whole ones."""

from bridgecrews.asking import check_not_above
from bridgecrews.towns import Town

# A bottom is one less than the quarters at most, so a town of this size with its copies is still a town.
MOST_SHARED_QUARTERS = 6
MOST_SHARED_BRIDGES = 12


def check_shared(town):
    check_not_above(town.quarters, town.bridges, MOST_SHARED_QUARTERS, MOST_SHARED_BRIDGES)


def common_divisor(one, other):
    while other > 0:
        rest = one % other
        one = other
        other = rest
    return one


def fraction_of(top, bottom):
    divisor = common_divisor(top, bottom)
    return (top // divisor, bottom // divisor)


# The copies of a bridge stand side by side, so that copies that rise are copies of bridges that rise.
def with_copies(town, copies):
    bridges = []
    for ends in town.bridges:
        bridges.extend([ends] * copies)
    return Town(town.quarters, bridges)


# Two copies of one bridge close a ring, so no crew has a bridge twice.
def counted_lists(dealing, copies):
    lists = [[place // copies for place in own] for own in dealing]
    counted = []
    for bridges in sorted(lists):
        if len(counted) > 0 and counted[-1][0] == bridges:
            counted[-1] = (bridges, counted[-1][1] + 1)
        else:
            counted.append((bridges, 1))
    return counted
