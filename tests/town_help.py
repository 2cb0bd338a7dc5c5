"""What several tests need: towns to ask about, and plain ways to see what is right, slow but easy to follow.

Nothing here uses the program's own functions but Town and Streets.
"""

import copy
import itertools
import math
import random
import time
import unittest

from bridgecrews.errors import CrewError
from bridgecrews.streets import Streets
from bridgecrews.towns import Town

SIXTY_FIGURES = 10 ** 59 + 7
FAR_NUMBERS = (SIXTY_FIGURES, -SIXTY_FIGURES, 10 ** 70 - 1, 1 - 10 ** 70)
WRONG_COUNTS = (0, 61, 62, -1, -60, 600) + FAR_NUMBERS
SECONDS = 2


class TownCase(unittest.TestCase):
    def ask(self, function, town, *handed):
        """The answer, or the refusal as it is raised; either way what was handed in must be as it was."""
        before = copy.deepcopy((vars(town), handed))
        try:
            return function(town, *handed)
        finally:
            self.assertEqual((vars(town), handed), before)

    def assert_refused(self, refusal, function, town, *handed):
        with self.assertRaises(CrewError) as caught:
            self.ask(function, town, *handed)
        self.assertIs(type(caught.exception), refusal)
        self.assertEqual(caught.exception.called(), refusal.__name__)
        takers = [other for other in CrewError.__subclasses__() if isinstance(caught.exception, other)]
        self.assertEqual(takers, [refusal])

    def assert_answered_soon(self, function, *handed):
        begun = time.process_time()
        function(*handed)
        self.assertLess(time.process_time() - begun, SECONDS)

    def assert_rising_list(self, numbers):
        self.assertIs(type(numbers), list)
        for number in numbers:
            self.assertIs(type(number), int)
        self.assertEqual(numbers, sorted(set(numbers)))

    def assert_are_bridges(self, town, some):
        self.assert_rising_list(some)
        self.assertTrue(set(some) <= set(range(len(town.bridges))))

    def assert_is_joining(self, town, some):
        self.assert_are_bridges(town, some)
        self.assertEqual(len(some), town.quarters - 1)
        self.assertFalse(closes_ring(town, some))
        self.assertEqual(len(pieces_by_spreading(town, some)), 1)

    def assert_is_parting(self, town, parting):
        self.assertIs(type(parting), list)
        for part in parting:
            self.assert_rising_list(part)
        self.assertEqual(sorted(sum(parting, [])), list(range(town.quarters)))
        self.assertTrue(all(parting))
        self.assertEqual(parting, sorted(parting))

    def assert_is_huddle(self, town, quarters):
        self.assert_rising_list(quarters)
        self.assertGreaterEqual(len(quarters), 2)
        self.assertTrue(set(quarters) <= set(range(town.quarters)))

    def assert_is_dealing(self, town, crews, dealing):
        self.assertIs(type(dealing), list)
        self.assertEqual(len(dealing), crews)
        for own in dealing:
            self.assert_are_bridges(town, own)
            self.assertFalse(closes_ring(town, own))
        self.assertEqual(len(set(sum(dealing, []))), dealt_count(dealing))

    def assert_are_huddles(self, town, huddles):
        self.assertIs(type(huddles), list)
        for huddle in huddles:
            self.assert_is_huddle(town, huddle)
        self.assertEqual(len(set(sum(huddles, []))), len(sum(huddles, [])))
        self.assertEqual(huddles, sorted(huddles))


class CountedCase(TownCase):
    def assert_is_fraction(self, fraction):
        self.assertIs(type(fraction), tuple)
        top, bottom = fraction
        self.assertEqual((type(top), type(bottom)), (int, int))
        self.assertGreaterEqual(top, 0)
        self.assertGreaterEqual(bottom, 1)
        self.assertEqual(math.gcd(top, bottom), 1)

    def counted_uses(self, town, top, counted):
        """How often each bridge is counted; the lists must be different ones that rise, and sum up to the top."""
        self.assertIs(type(counted), list)
        uses = dict.fromkeys(range(len(town.bridges)), 0)
        for pair in counted:
            self.assertIs(type(pair), tuple)
            bridges, count = pair
            self.assert_are_bridges(town, bridges)
            self.assertIs(type(count), int)
            self.assertGreaterEqual(count, 1)
            for bridge in bridges:
                uses[bridge] += count
        lists = [bridges for bridges, _ in counted]
        self.assertTrue(all(one < other for one, other in zip(lists, lists[1:])))
        self.assertEqual(sum(count for _, count in counted), top)
        return uses


def some_town(seed, most_quarters=24, most_bridges=60):
    chance = random.Random(seed)
    quarters = chance.randint(2, most_quarters)
    return full_town(seed, quarters, chance.randint(0, most_bridges))


def full_town(seed, quarters, bridges):
    chance = random.Random(f"{seed} {quarters} {bridges}")
    return Town(quarters, [tuple(chance.sample(range(quarters), 2)) for _ in range(bridges)])


def some_streets(seed, most_quarters=24, most_streets=60):
    town = some_town(f"streets {seed}", most_quarters, most_streets)
    return Streets(town.quarters, town.bridges)


def full_streets(seed, quarters, streets):
    return Streets(quarters, full_town(f"streets {seed}", quarters, streets).bridges)


def chance_joining(chance, quarters):
    """Pairs of these quarters, each turned by chance, that join them all without a ring."""
    order = chance.sample(quarters, len(quarters))
    pairs = [(order[place], chance.choice(order[:place])) for place in range(1, len(order))]
    return [pair[::-1] if chance.random() < 0.5 else pair for pair in pairs]


def planted_town(seed, joinings, others=None):
    """A town in which so many joinings are hidden, mixed with other bridges, some or so many."""
    chance = random.Random(f"planted {seed} {joinings} {others}")
    quarters = chance.randint(2, min(24, (60 - (others or 0)) // joinings + 1))
    bridges = [pair for _ in range(joinings) for pair in chance_joining(chance, range(quarters))]
    if others is None:
        others = chance.randint(0, 60 - len(bridges))
    bridges += [tuple(chance.sample(range(quarters), 2)) for _ in range(others)]
    chance.shuffle(bridges)
    return Town(quarters, bridges)


def two_heaps(seed, joinings, between):
    """A town of two heaps of quarters, each with so many joinings of its own, and so many bridges between them."""
    chance = random.Random(f"heaps {seed} {joinings} {between}")
    quarters = chance.randint(2, min(24, (60 - between) // joinings + 2))
    order = chance.sample(range(quarters), quarters)
    cut = chance.randint(1, quarters - 1)
    bridges = [tuple(chance.sample([chance.choice(order[:cut]), chance.choice(order[cut:])], 2))
               for _ in range(between)]
    for heap in (order[:cut], order[cut:]):
        for _ in range(joinings):
            bridges += chance_joining(chance, heap)
    chance.shuffle(bridges)
    return Town(quarters, bridges)


def ring_pairs(quarters):
    order = list(quarters)
    return list(zip(order, order[1:] + order[:1]))


def full_pairs(quarters):
    """A pair for each two of so many quarters."""
    return [(one, other) for one in range(quarters) for other in range(one)]


# The largest towns that strength and crowding are told for, and towns that lie beyond in one way or in both.
COUNTABLE_TOWNS = [full_town(seed, 6, 12) for seed in range(60)] + [
    Town(6, ring_pairs(range(6)) * 2), Town(6, full_pairs(6)[:12]), Town(6, full_pairs(6)[3:]),
    Town(6, [(0, 1), (2, 3), (4, 5)] * 4), Town(6, [(4, 3)] * 12),
]
TOO_LARGE_TOWNS = [
    Town(7, []), Town(24, []), Town(7, full_pairs(5)), Town(2, [(0, 1)] * 13), full_town(1, 6, 13), full_town(1, 6, 60),
    full_town(1, 7, 12), full_town(1, 7, 13), full_town(1, 24, 60),
]


def every_town(quarters, bridges):
    """Every town of so many quarters and bridges, in every order; each second bridge is turned about."""
    pairs = list(itertools.combinations(range(quarters), 2))
    for chosen in itertools.product(pairs, repeat=bridges):
        yield Town(quarters, [pair[::-1] if place % 2 else pair for place, pair in enumerate(chosen)])


def every_list(count):
    """Every rising list of numbers below count."""
    for many in range(count + 1):
        for chosen in itertools.combinations(range(count), many):
            yield list(chosen)


def every_grouping(quarters):
    """Every list of groups of all these quarters, none in two of them, in the order of their least quarters."""
    if not quarters:
        yield []
        return
    first, others = quarters[0], quarters[1:]
    for places in every_list(len(others)):
        group = [first] + [others[place] for place in places]
        left = [quarter for quarter in others if quarter not in group]
        for grouping in every_grouping(left):
            yield [group] + grouping


def every_huddles(quarters):
    """Every list of huddles of a town of so many quarters."""
    for grouping in every_grouping(list(range(quarters))):
        yield [group for group in grouping if len(group) > 1]


def pieces_by_spreading(town, some):
    least = list(range(town.quarters))
    for _ in range(town.quarters):
        for bridge in some:
            one, other = town.bridges[bridge]
            least[one] = least[other] = min(least[one], least[other])
    return [[quarter for quarter in range(town.quarters) if least[quarter] == first] for first in sorted(set(least))]


def closes_ring(town, some):
    return len(some) > town.quarters - len(pieces_by_spreading(town, some))


def walked(town, bridges, start):
    """The quarters that one comes to, the start ahead of them, or None where a bridge does not lead on."""
    quarters = [start]
    for bridge in bridges:
        one, other = town.bridges[bridge]
        if quarters[-1] not in (one, other):
            return None
        quarters.append(one + other - quarters[-1])
    return quarters


def is_way(town, some, one, other, way):
    quarters = walked(town, way, one)
    return (quarters is not None and quarters[-1] == other and len(set(quarters)) == len(quarters)
            and len(set(way)) == len(way) and set(way) <= set(some))


def is_ring(town, some, ring):
    if len(ring) < 2 or len(set(ring)) != len(ring) or not set(ring) <= set(some):
        return False
    for start in town.bridges[ring[0]]:
        quarters = walked(town, ring, start)
        if quarters is not None and quarters[-1] == start and len(set(quarters)) == len(ring):
            return True
    return False


def all_ways(town, some, one, other, met=()):
    """All ways over some bridges, each as a list."""
    if one == other:
        return [[]]
    ways = []
    for bridge in some:
        ends = town.bridges[bridge]
        if one in ends:
            beyond = sum(ends) - one
            if beyond not in met:
                ways += [[bridge] + way for way in all_ways(town, some, beyond, other, met + (one,))]
    return ways


def between(town, parting):
    place = {quarter: number for number, part in enumerate(parting) for quarter in part}
    return [bridge for bridge, (one, other) in enumerate(town.bridges) if place[one] != place[other]]


def within(town, quarters):
    return [bridge for bridge, ends in enumerate(town.bridges) if set(ends) <= set(quarters)]


def dealt_count(dealing):
    return sum(len(own) for own in dealing)


def most_by_huddles(town, crews, huddles, some=None):
    """The most that a dealing takes by these huddles of some bridges, or of all."""
    free = [bridge for bridge in (range(len(town.bridges)) if some is None else some)
            if not any(set(town.bridges[bridge]) <= set(huddle) for huddle in huddles)]
    return len(free) + crews * sum(len(huddle) - 1 for huddle in huddles)


def dearest_by_trying(town, crews, wages):
    """The greatest sum of any dealing: each bridge is given to each crew and to none."""
    def tried(bridge, dealing):
        if bridge == len(town.bridges):
            return sum(wages[taken] for own in dealing for taken in own)
        most = tried(bridge + 1, dealing)
        for crew in range(crews):
            own = dealing[crew] + [bridge]
            if not closes_ring(town, own):
                most = max(most, tried(bridge + 1, dealing[:crew] + [own] + dealing[crew + 1:]))
        return most
    return tried(0, [[] for _ in range(crews)])


def most_by_trying(town, crews):
    """The most bridges of any dealing."""
    return dearest_by_trying(town, crews, [1] * len(town.bridges))


def joinings_by_trying(town):
    """All joinings of a town, in rising order."""
    chosen = itertools.combinations(range(len(town.bridges)), town.quarters - 1)
    return [list(some) for some in chosen if len(pieces_by_spreading(town, some)) == 1]


def most_joining_by_trying(town):
    """The most joinings, no two with a bridge in common, of all ways to take such."""
    def tried(joinings):
        most = 0
        for place, one in enumerate(joinings):
            apart = [other for other in joinings[place + 1:] if not set(one) & set(other)]
            most = max(most, 1 + tried(apart))
        return most
    return tried(joinings_by_trying(town))


def cheapest_by_trying(town, crews, wages):
    """The least sum of so many joinings, no two with a bridge in common, or None where there are not so many."""
    def tried(joinings, many):
        if many == 0:
            return 0
        sums = []
        for place, one in enumerate(joinings):
            apart = [other for other in joinings[place + 1:] if not set(one) & set(other)]
            others = tried(apart, many - 1)
            if others is not None:
                sums.append(others + sum(wages[bridge] for bridge in one))
        return min(sums, default=None)
    return 0 if town.quarters == 1 else tried(joinings_by_trying(town), crews)


def fewest_by_trying(town):
    """The fewest crews to which all bridges can be dealt out."""
    crews = 0
    while most_by_trying(town, crews) < len(town.bridges):
        crews += 1
    return crews
