"""Partings of a town's quarters, and the bridges between parts and within some quarters."""

from bridgecrews.asking import are_groups, check_some_quarters
from bridgecrews.errors import BadParting


def is_parting(town, parting):
    return are_groups(parting, town.quarters, 1) and sum([len(part) for part in parting]) == town.quarters


def part_places(parting):
    places = {}
    for place, part in enumerate(parting):
        for quarter in part:
            places[quarter] = place
    return places


def bridges_between(town, parting):
    if not is_parting(town, parting):
        raise BadParting("a parting has each quarter in one part, all in their order")
    places = part_places(parting)
    return [bridge for bridge, ends in enumerate(town.bridges) if places[ends[0]] != places[ends[1]]]


def bridges_within(town, quarters):
    check_some_quarters(quarters, town.quarters)
    return [bridge for bridge, ends in enumerate(town.bridges) if ends[0] in quarters and ends[1] in quarters]
