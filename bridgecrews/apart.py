"""Ways from one quarter to another over one-way streets, no street in two of them."""

from bridgecrews.asking import joins_two
from bridgecrews.errors import BadQuarters
from bridgecrews.pieces import reached_from, way_to
from bridgecrews.streets import steps_along


# The streets of as many ways as can be, and the quarters that are reached where one more way was looked for.
# To go back over a street that is in use is to give it up, so each search finds a way more wherever there is one;
# at the end all streets that lead out of the reached quarters are in use and none that leads into them is.
def streets_in_use(streets, one, other):
    every = list(range(len(streets.streets)))
    used = []
    came_by = reached_from(steps_along(streets, every, used), one)
    while other in came_by:
        used = sorted(set(used) ^ set(way_to(other, came_by)))
        came_by = reached_from(steps_along(streets, every, used), one)
    return (used, sorted(came_by))


# The streets in use may close rings as well: they are left over, since a way as short as any comes to no quarter twice.
# No street in use leads into the one, so what is left over leads nowhere from there.
def ways_over(streets, used, one, other):
    ways = []
    left = used
    way = way_to(other, reached_from(steps_along(streets, left, []), one))
    while way is not None:
        ways.append(way)
        left = sorted(set(left) - set(way))
        way = way_to(other, reached_from(steps_along(streets, left, []), one))
    return sorted(ways)


def ways_apart(streets, one, other):
    if not joins_two(one, other, streets.quarters):
        raise BadQuarters("ways are told from one quarter to a different one")
    told = streets_in_use(streets, one, other)
    ways = ways_over(streets, told[0], one, other)
    return (len(ways), ways, told[1])
