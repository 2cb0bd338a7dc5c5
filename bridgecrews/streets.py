"""One-way streets between quarters, and where one can go over them."""

from bridgecrews.asking import check_quarter, check_some, check_town
from bridgecrews.pieces import reached_from


class Streets:
    def __init__(self, quarters, streets):
        check_town(quarters, streets)
        self.quarters = quarters
        # A copy, so that a later change of the list that was handed in does not reach the streets.
        self.streets = list(streets)


# For each quarter, what leads on from it: pairs of a street and the quarter that it comes to. The streets that are
# turned, which may be none, are gone the other way about.
def steps_along(streets, some, turned):
    steps = [[] for quarter in range(streets.quarters)]
    for street in some:
        ends = streets.streets[street]
        if street in turned:
            steps[ends[1]].append((street, ends[0]))
        else:
            steps[ends[0]].append((street, ends[1]))
    return steps


def reached_over(streets, some, one):
    check_some(some, streets.streets)
    check_quarter(one, streets.quarters)
    return sorted(reached_from(steps_along(streets, some, []), one))
