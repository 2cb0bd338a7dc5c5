"""What several tests need: towns to ask about, and plain ways to see what is right, slow but easy to follow.

Nothing here uses the program's own functions but Town.
"""

import copy
import itertools
import random
import unittest

from bridgecrews.errors import CrewError
from bridgecrews.towns import Town

SIXTY_FIGURES = 10 ** 59 + 7
FAR_NUMBERS = (SIXTY_FIGURES, -SIXTY_FIGURES, 10 ** 70 - 1, 1 - 10 ** 70)


class TownCase(unittest.TestCase):
    def ask(self, function, town, *handed):
        """The answer, or the refusal as it is raised; either way what was handed in must be as it was."""
        before = (town.quarters, list(town.bridges), copy.deepcopy(handed))
        try:
            return function(town, *handed)
        finally:
            self.assertEqual((town.quarters, town.bridges, handed), before)

    def assert_refused(self, refusal, function, town, *handed):
        with self.assertRaises(CrewError) as caught:
            self.ask(function, town, *handed)
        self.assertIs(type(caught.exception), refusal)
        self.assertEqual(caught.exception.called(), refusal.__name__)

    def assert_rising_list(self, numbers):
        self.assertIs(type(numbers), list)
        for number in numbers:
            self.assertIs(type(number), int)
        self.assertEqual(numbers, sorted(set(numbers)))


def some_town(seed, most_quarters=24, most_bridges=60):
    chance = random.Random(seed)
    quarters = chance.randint(2, most_quarters)
    return full_town(seed, quarters, chance.randint(0, most_bridges))


def full_town(seed, quarters, bridges):
    chance = random.Random(f"{seed} {quarters} {bridges}")
    return Town(quarters, [tuple(chance.sample(range(quarters), 2)) for _ in range(bridges)])


def every_town(quarters, bridges):
    """Every town of so many quarters and bridges, in every order; each second bridge is turned about."""
    pairs = list(itertools.combinations(range(quarters), 2))
    for chosen in itertools.product(pairs, repeat=bridges):
        yield Town(quarters, [pair[::-1] if place % 2 else pair for place, pair in enumerate(chosen)])


def every_list(count):
    """Every rising list of numbers below count."""
    for many in range(count + 1):
        for chosen in itertools.combinations(range(count), many):
            yield list(chosen)


def every_grouping(quarters):
    """Every list of groups of all these quarters, none in two of them, in the order of their least quarters."""
    if not quarters:
        yield []
        return
    first, others = quarters[0], quarters[1:]
    for places in every_list(len(others)):
        group = [first] + [others[place] for place in places]
        left = [quarter for quarter in others if quarter not in group]
        for grouping in every_grouping(left):
            yield [group] + grouping


def every_huddles(quarters):
    """Every list of huddles of a town of so many quarters."""
    for grouping in every_grouping(list(range(quarters))):
        yield [group for group in grouping if len(group) > 1]


def pieces_by_spreading(town, some):
    least = list(range(town.quarters))
    for _ in range(town.quarters):
        for bridge in some:
            one, other = town.bridges[bridge]
            least[one] = least[other] = min(least[one], least[other])
    return [[quarter for quarter in range(town.quarters) if least[quarter] == first] for first in sorted(set(least))]


def closes_ring(town, some):
    return len(some) > town.quarters - len(pieces_by_spreading(town, some))


def walked(town, bridges, start):
    """The quarters that one comes to, the start ahead of them, or None where a bridge does not lead on."""
    quarters = [start]
    for bridge in bridges:
        one, other = town.bridges[bridge]
        if quarters[-1] not in (one, other):
            return None
        quarters.append(one + other - quarters[-1])
    return quarters


def is_way(town, some, one, other, way):
    quarters = walked(town, way, one)
    return (quarters is not None and quarters[-1] == other and len(set(quarters)) == len(quarters)
            and len(set(way)) == len(way) and set(way) <= set(some))


def is_ring(town, some, ring):
    if len(ring) < 2 or len(set(ring)) != len(ring) or not set(ring) <= set(some):
        return False
    for start in town.bridges[ring[0]]:
        quarters = walked(town, ring, start)
        if quarters is not None and quarters[-1] == start and len(set(quarters)) == len(ring):
            return True
    return False


def all_ways(town, some, one, other, met=()):
    """All ways over some bridges, each as a list."""
    if one == other:
        return [[]]
    ways = []
    for bridge in some:
        ends = town.bridges[bridge]
        if one in ends:
            beyond = sum(ends) - one
            if beyond not in met:
                ways += [[bridge] + way for way in all_ways(town, some, beyond, other, met + (one,))]
    return ways


def within(town, quarters):
    return [bridge for bridge, ends in enumerate(town.bridges) if set(ends) <= set(quarters)]


def dealt_count(dealing):
    return sum(len(own) for own in dealing)


def most_by_huddles(town, crews, huddles):
    free = [bridge for bridge in range(len(town.bridges))
            if not any(set(town.bridges[bridge]) <= set(huddle) for huddle in huddles)]
    return len(free) + crews * sum(len(huddle) - 1 for huddle in huddles)


def most_by_trying(town, crews):
    """The most bridges of any dealing: each bridge is given to each crew and to none."""
    def tried(bridge, dealing):
        if bridge == len(town.bridges):
            return dealt_count(dealing)
        most = tried(bridge + 1, dealing)
        for crew in range(crews):
            own = dealing[crew] + [bridge]
            if not closes_ring(town, own):
                most = max(most, tried(bridge + 1, dealing[:crew] + [own] + dealing[crew + 1:]))
        return most
    return tried(0, [[] for _ in range(crews)])
