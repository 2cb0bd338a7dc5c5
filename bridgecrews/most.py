"""The most bridges that can be dealt out to a number of crews, with the huddles that show it."""

from bridgecrews.asking import check_crews, put_together
from bridgecrews.dealings import lies_within
from bridgecrews.pieces import way_between


def dealing_of(crew_of, crews):
    dealing = [[] for crew in range(crews)]
    for bridge in sorted(crew_of):
        dealing[crew_of[bridge]].append(bridge)
    return dealing


# Looks for a crew that can take a bridge more, going from each bridge to those that would have to make room for it:
# the bridges of a crew that it would close a ring with. Tells the pair (end, pushed_by). The end is a pair of the
# last bridge that moves and the crew that takes it, or None where there is none; pushed_by has for each bridge that
# was come to the one that it would make room for. The bridges are gone through in the order in which they were come
# to, since a row of moves is sure to close no ring only where no shorter one is there.
def room_for(town, dealing, first):
    pushed_by = {first: None}
    queue = [first]
    place = 0
    while place < len(queue):
        bridge = queue[place]
        ends = town.bridges[bridge]
        for crew, own in enumerate(dealing):
            way = way_between(town, own, ends[0], ends[1])
            if way is None:
                return ((bridge, crew), pushed_by)
            for met in way:
                if met not in pushed_by:
                    pushed_by[met] = bridge
                    queue.append(met)
        place += 1
    return (None, pushed_by)


# Each bridge takes the place that the one that makes room for it leaves, from the end back to the first one.
def make_room(crew_of, end, pushed_by):
    bridge = end[0]
    crew = end[1]
    while bridge is not None:
        left = crew_of.get(bridge)
        crew_of[bridge] = crew
        crew = left
        bridge = pushed_by[bridge]


def ends_of(town, bridges):
    return put_together([town.bridges[bridge] for bridge in bridges])


# Where a crew's bridges join each of two lists of quarters that share one, they join both together,
# so what is true of two such huddles is true of the one that they are put together to.
def with_huddle(huddles, quarters):
    apart = []
    joined = list(quarters)
    for huddle in huddles:
        if len(set(huddle) & set(quarters)) == 0:
            apart.append(huddle)
        else:
            joined.extend(huddle)
    return sorted(apart + [sorted(set(joined))])


# Where a bridge finds no room, each crew joins all quarters at the bridges that were come to by these bridges alone:
# they are a huddle. No later move comes out of them, so it stays one, and no other bridge within it needs a search.
# Tells the dealing and, for each row, the huddles that are there behind it. A bridge that is dealt out moves from crew
# to crew but stays dealt, so at the end the huddles of each row still show that no dealing takes more of the bridges
# of this row and those ahead of it.
# The number of crews was asked already, or is the program's own: no crews, too, and one more than can be asked for.
def deal_by_rows(town, crews, rows):
    crew_of = {}
    huddles = []
    shown = []
    for row in rows:
        for bridge in row:
            if not lies_within(town.bridges[bridge], huddles):
                found = room_for(town, dealing_of(crew_of, crews), bridge)
                if found[0] is None:
                    huddles = with_huddle(huddles, ends_of(town, list(found[1])))
                else:
                    make_room(crew_of, found[0], found[1])
        # A huddle that stays from row to row is to be a list of its own in each.
        shown.append([list(huddle) for huddle in huddles])
    return (dealing_of(crew_of, crews), shown)


def deal_most(town, crews):
    told = deal_by_rows(town, crews, [list(range(len(town.bridges)))])
    return (told[0], told[1][0])


def most_dealt(town, crews):
    check_crews(crews)
    return deal_most(town, crews)
