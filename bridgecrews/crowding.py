"""How crowded a town is: the most bridges within some quarters, for each quarter but one."""

from bridgecrews.covering import taken_or_huddle
from bridgecrews.partings import bridges_within
from bridgecrews.shares import check_shared, counted_lists, fraction_of, with_copies


# With each bridge told as often as the fraction's bottom, either as many crews as its top take them all, which no
# quarters with a greater fraction would let them, or quarters are told whose fraction is greater: those are next.
def crowding_by(town, quarters):
    crowding = fraction_of(len(bridges_within(town, quarters)), len(quarters) - 1)
    told = taken_or_huddle(with_copies(town, crowding[1]), crowding[0])
    if told[0] == "huddle":
        return crowding_by(town, told[1])
    return (crowding, quarters, counted_lists(told[1], crowding[1]))


def crowding_of(town):
    check_shared(town)
    if len(town.bridges) == 0:
        return ((0, 1), [], [])
    return crowding_by(town, list(range(town.quarters)))
