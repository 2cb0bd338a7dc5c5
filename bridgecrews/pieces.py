"""Pieces, ways and rings: where one can go over some bridges."""

from bridgecrews.asking import check_quarter, check_some


# For each quarter, what leads on from it: pairs of a bridge and the quarter that it comes to.
def steps_over(town, some):
    steps = [[] for quarter in range(town.quarters)]
    for bridge in some:
        ends = town.bridges[bridge]
        steps[ends[0]].append((bridge, ends[1]))
        steps[ends[1]].append((bridge, ends[0]))
    return steps


# For each quarter that one can go to: the pair of the bridge and the quarter that it was come to from.
# Quarters are gone on from in the order in which they were come to, so each is come to by as few bridges as any.
def reached_from(steps, start):
    came_by = {start: None}
    queue = [start]
    place = 0
    while place < len(queue):
        quarter = queue[place]
        for bridge, beyond in steps[quarter]:
            if beyond not in came_by:
                came_by[beyond] = (bridge, quarter)
                queue.append(beyond)
        place += 1
    return came_by


def pieces_of(town, some):
    check_some(some, town.bridges)
    steps = steps_over(town, some)
    pieces = []
    placed = {}
    for quarter in range(town.quarters):
        if quarter not in placed:
            piece = sorted(reached_from(steps, quarter))
            pieces.append(piece)
            for member in piece:
                placed[member] = True
    return pieces


def joins_all(town, some):
    return len(pieces_of(town, some)) == 1


def way_to(quarter, came_by):
    if quarter not in came_by:
        return None
    way = []
    step = came_by[quarter]
    while step is not None:
        way.append(step[0])
        step = came_by[step[1]]
    way.reverse()
    return way


# A way over bridges that were asked already: the searches for rings and dealings ask for very many.
def way_between(town, some, one, other):
    return way_to(other, reached_from(steps_over(town, some), one))


def way_over(town, some, one, other):
    check_some(some, town.bridges)
    check_quarter(one, town.quarters)
    check_quarter(other, town.quarters)
    return way_between(town, some, one, other)


def ring_over(town, some):
    check_some(some, town.bridges)
    ringless = []
    for bridge in some:
        ends = town.bridges[bridge]
        way = way_between(town, ringless, ends[0], ends[1])
        if way is not None:
            return way + [bridge]
        ringless.append(bridge)
    return None
