"""How strong a town is: the fewest bridges between parts, for each part but one."""

from bridgecrews.asking import check_not_alone
from bridgecrews.joining import joined_or_parted
from bridgecrews.partings import bridges_between
from bridgecrews.shares import check_shared, counted_lists, fraction_of, with_copies


# With each bridge told as often as the fraction's bottom, either as many crews as its top can each join all, which no
# parting with a lesser fraction would leave room for, or a parting is told whose fraction is lesser: that one is next.
def strength_by(town, parting):
    strength = fraction_of(len(bridges_between(town, parting)), len(parting) - 1)
    told = joined_or_parted(with_copies(town, strength[1]), strength[0])
    if told[0] == "parting":
        return strength_by(town, told[1])
    return (strength, parting, counted_lists(told[1], strength[1]))


def strength_of(town):
    check_not_alone(town.quarters)
    check_shared(town)
    return strength_by(town, [[quarter] for quarter in range(town.quarters)])
