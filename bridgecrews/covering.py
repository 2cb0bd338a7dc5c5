"""Crews that take all bridges, or a huddle with more bridges than so many can take."""

from bridgecrews.asking import check_crews
from bridgecrews.most import deal_most


# A huddle is told only where a bridge within it found no room, and each crew has as many bridges there as it can:
# so there are more within any of them than the crews can take.
def taken_or_huddle(town, crews):
    told = deal_most(town, crews)
    if len(told[1]) == 0:
        return ("crews", told[0])
    return ("huddle", told[1][0])


def all_by(town, crews):
    check_crews(crews)
    return taken_or_huddle(town, crews)


def fewest_crews(town):
    count = 0
    huddle = []
    told = taken_or_huddle(town, count)
    while told[0] == "huddle":
        count += 1
        huddle = told[1]
        told = taken_or_huddle(town, count)
    return (count, told[1], huddle)
