"""Points 61 to 63: what wages are, the dearest dealing, and the cheapest one in which each crew has a joining."""

import itertools
import random

from bridgecrews.dealings import is_dealing, shows_most
from bridgecrews.errors import BadCount, BadWages
from bridgecrews.joining import joining_crews
from bridgecrews.towns import Town
from bridgecrews.wages import cheapest_joining, dearest_dealing, level_shows
from town_help import (
    WRONG_COUNTS, TownCase, between, chance_joining, cheapest_by_trying, dealt_count, dearest_by_trying, every_town,
    full_pairs, full_town, most_by_huddles, most_by_trying, planted_town, ring_pairs, some_town, two_heaps,
)

MOST = 10 ** 60
TRIANGLE = Town(3, [(0, 1), (1, 2), (2, 0)])
# Two rings of three with one bridge between them: joined, but by one crew alone.
TWO_RINGS = Town(6, [(0, 2), (1, 3), (2, 4), (3, 5), (4, 0), (5, 1), (4, 3)])


def chance_wages(seed, town, most):
    chance = random.Random(f"wages {seed} {most}")
    return [chance.randint(0, most) for _ in town.bridges]


def some_wages(seed, town):
    """Wages of which many are alike, of which few are, huge ones, and huge ones that differ by little."""
    few = chance_wages(seed, town, 3)
    return [few, chance_wages(seed, town, 100), chance_wages(seed, town, MOST), [MOST - wage for wage in few]]


class WagesCase(TownCase):
    def assert_shown(self, town, dealing, levels, order, chosen):
        """A level for each wage in this order; chosen tells the bridges that it speaks of."""
        self.assertIs(type(levels), list)
        self.assertEqual([level[0] for level in levels], order)
        taken = set(sum(dealing, []))
        for level in levels:
            self.assertIs(type(level), tuple)
            wage, huddles = level
            self.assertIs(type(wage), int)
            self.assert_are_huddles(town, huddles)
            some = chosen(wage)
            self.assertEqual(len(taken & set(some)), most_by_huddles(town, len(dealing), huddles, some))
            self.assertIs(level_shows(town, some, dealing, huddles), True)
        if levels:
            self.assertIs(shows_most(town, dealing, levels[-1][1]), True)

    def assert_summed(self, told, dealing, wages):
        self.assertIs(type(told), int)
        self.assertEqual(told, sum(wages[bridge] for own in dealing for bridge in own))

    def dearest(self, town, crews, wages):
        """The sum, the dealing and the levels, seen to be right by counting."""
        told = self.ask(dearest_dealing, town, crews, wages)
        self.assertIs(type(told), tuple)
        total, dealing, levels = told
        self.assert_is_dealing(town, crews, dealing)
        self.assertIs(is_dealing(town, dealing), True)
        self.assert_summed(total, dealing, wages)
        self.assert_shown(town, dealing, levels, sorted(set(wages), reverse=True),
                          lambda least: [bridge for bridge, wage in enumerate(wages) if wage >= least])
        return total, dealing, levels

    def cheapest(self, town, crews, wages):
        """The sum, the dealing and the levels, or None where there is a parting; seen to be right likewise."""
        told = self.ask(cheapest_joining, town, crews, wages)
        self.assertIs(type(told), tuple)
        self.assertIs(type(told[0]), str)
        self.assertEqual(told[0], joining_crews(town, crews)[0])
        if told[0] == "parting":
            self.assertEqual(len(told), 2)
            self.assert_is_parting(town, told[1])
            self.assertLess(len(between(town, told[1])), crews * (len(told[1]) - 1))
            return None
        word, total, dealing, levels = told
        self.assertEqual(word, "crews")
        self.assert_is_dealing(town, crews, dealing)
        for own in dealing:
            self.assert_is_joining(town, own)
        self.assert_summed(total, dealing, wages)
        self.assert_shown(town, dealing, levels, sorted(set(wages)),
                          lambda most: [bridge for bridge, wage in enumerate(wages) if wage <= most])
        return total, dealing, levels

    def cheapest_sum(self, town, crews, wages):
        told = self.cheapest(town, crews, wages)
        return None if told is None else told[0]


class Dearest(WagesCase):
    def test_one_crew_leaves_the_cheapest_bridge_of_a_ring(self):
        for wages in itertools.permutations((3, 5, 8)):
            total, dealing, levels = self.dearest(TRIANGLE, 1, list(wages))
            self.assertEqual((total, dealing[0]), (13, [bridge for bridge in range(3) if wages[bridge] > 3]))
            self.assertEqual(levels, [(8, []), (5, []), (3, [[0, 1, 2]])])

    def test_no_bridges(self):
        for quarters in (2, 24):
            for crews in (1, 2, 60):
                self.assertEqual(self.dearest(Town(quarters, []), crews, []), (0, [[]] * crews, []))

    def test_one_quarter(self):
        for crews in (1, 2, 60):
            self.assertEqual(self.dearest(Town(1, []), crews, []), (0, [[]] * crews, []))

    def test_more_crews_than_bridges(self):
        for crews in (3, 4, 60):
            self.assertEqual(self.dearest(Town(3, [(0, 1), (1, 0), (0, 1)]), crews, [4, 0, MOST])[0], MOST + 4)

    def test_wages_all_alike(self):
        for seed in range(20):
            town = some_town(seed, 5, 7)
            for crews in (1, 2):
                for wage in (1, 7, MOST):
                    total, dealing, levels = self.dearest(town, crews, [wage] * len(town.bridges))
                    self.assertEqual(total, wage * most_by_trying(town, crews))
                    self.assertEqual(len(levels), 1 if town.bridges else 0)

    def test_wages_all_nought(self):
        # The level of the wage nought asks for as many bridges as can be, though they bring nothing.
        for seed in range(20):
            town = some_town(seed, 5, 7)
            for crews in (1, 2):
                total, dealing, _ = self.dearest(town, crews, [0] * len(town.bridges))
                self.assertEqual((total, dealt_count(dealing)), (0, most_by_trying(town, crews)))

    def test_two_wages_whose_difference_is_1(self):
        for low in (0, 1, 10 ** 18, MOST - 1):
            for places in itertools.permutations(range(3), 2):
                wages = [low + (place in places) for place in range(3)]
                self.assertEqual(self.dearest(TRIANGLE, 1, wages)[:2], (2 * low + 2, [sorted(places)]))
            self.assertEqual(self.dearest(Town(2, [(0, 1), (1, 0)]), 1, [low, low + 1])[:2], (low + 1, [[1]]))
            self.assertEqual(self.dearest(Town(2, [(0, 1), (1, 0)]), 1, [low + 1, low])[:2], (low + 1, [[0]]))

    def test_huge_wages(self):
        self.assertEqual(self.dearest(Town(2, [(0, 1)] * 60), 60, [MOST] * 60)[0], 60 * MOST)
        for crews in (1, 2, 30, 59):
            wages = [MOST - 7 * place % 60 for place in range(60)]
            self.assertEqual(self.dearest(Town(2, [(0, 1)] * 60), crews, wages)[0],
                             sum(sorted(wages, reverse=True)[:crews]))

    def test_one_dear_bridge_is_worth_more_than_many_cheap_ones(self):
        town = Town(5, ring_pairs(range(5)) + [(0, 2)])
        for dear in range(6):
            wages = [1] * 6
            wages[dear] = MOST
            self.assertEqual(self.dearest(town, 1, wages)[0], MOST + 3)

    def test_huddles_that_stay_from_level_to_level(self):
        town = Town(6, [(0, 1), (1, 0), (2, 3), (3, 2), (4, 5), (5, 4)])
        levels = self.dearest(town, 1, [9, 9, 7, 7, 5, 5])[2]
        self.assertEqual(levels, [(9, [[0, 1]]), (7, [[0, 1], [2, 3]]), (5, [[0, 1], [2, 3], [4, 5]])])

    def test_dear_bridges_that_come_last_make_others_make_room(self):
        # Dealt as they come, the first crew has 0, 1 and 2; with two crews all six can be dealt only by other lists.
        town = Town(4, [(0, 1), (1, 2), (2, 3), (0, 3), (1, 3), (0, 1)])
        for wages in ([1, 2, 3, 4, 5, 6], [6, 5, 4, 3, 2, 1], [2, 9, 1, 9, 2, 1]):
            self.assertEqual(self.dearest(town, 2, wages)[0], sum(wages))
            self.assertEqual(self.dearest(town, 1, wages)[0], dearest_by_trying(town, 1, wages))

    def test_every_small_town(self):
        for quarters, bridges, crew_counts in ((2, 4, (1, 2, 3)), (3, 3, (1, 2)), (3, 4, (1, 2)), (4, 3, (1,))):
            for town in every_town(quarters, bridges):
                for wages in ([1, 0, 2, 1][:bridges], [2, 3, 3, 5][:bridges], [4, 3, 2, 1][:bridges]):
                    for crews in crew_counts:
                        self.assertEqual(self.dearest(town, crews, wages)[0], dearest_by_trying(town, crews, wages))

    def test_every_wages_of_small_towns(self):
        for town in (TRIANGLE, Town(3, [(0, 1), (0, 1), (1, 2)]), Town(2, [(0, 1)] * 3), Town(4, TRIANGLE.bridges)):
            for wages in itertools.product(range(4), repeat=3):
                for crews in (1, 2):
                    self.assertEqual(self.dearest(town, crews, list(wages))[0], dearest_by_trying(town, crews, wages))

    def test_towns_of_up_to_five_quarters(self):
        for seed in range(60):
            town = some_town(seed, 5, 7)
            for wages in some_wages(seed, town):
                for crews in (1, 2):
                    self.assertEqual(self.dearest(town, crews, wages)[0], dearest_by_trying(town, crews, wages))


class Cheapest(WagesCase):
    def test_one_quarter(self):
        for crews in (1, 2, 59, 60):
            self.assertEqual(self.ask(cheapest_joining, Town(1, []), crews, []), ("crews", 0, [[]] * crews, []))

    def test_no_bridges(self):
        for quarters in (2, 3, 24):
            for crews in (1, 2, 60):
                self.assertIsNone(self.cheapest(Town(quarters, []), crews, []))

    def test_one_crew_leaves_the_dearest_bridge_of_a_ring(self):
        for wages in itertools.permutations((3, 5, 8)):
            total, dealing, levels = self.cheapest(TRIANGLE, 1, list(wages))
            self.assertEqual((total, dealing[0]), (8, [bridge for bridge in range(3) if wages[bridge] < 8]))
            self.assertEqual(levels, [(3, []), (5, []), (8, [[0, 1, 2]])])

    def test_a_level_for_each_wage_of_the_town(self):
        # The two dearest bridges are dealt to none, and have their levels all the same.
        levels = self.cheapest(Town(2, [(0, 1), (1, 0), (0, 1)]), 1, [7, 0, 5])[2]
        self.assertEqual(levels, [(0, []), (5, [[0, 1]]), (7, [[0, 1]])])

    def test_wages_all_nought(self):
        for town, count in ((Town(2, [(0, 1)] * 5), 5), (Town(4, full_pairs(4)), 2), (TWO_RINGS, 1), (TRIANGLE, 1)):
            for crews in range(1, count + 1):
                total, dealing, levels = self.cheapest(town, crews, [0] * len(town.bridges))
                self.assertEqual((total, dealt_count(dealing)), (0, crews * (town.quarters - 1)))
                self.assertEqual([wage for wage, _ in levels], [0])
            self.assertIsNone(self.cheapest(town, count + 1, [0] * len(town.bridges)))

    def test_a_free_bridge_beyond_a_joining_is_dealt_to_none(self):
        total, dealing, _ = self.cheapest(TRIANGLE, 1, [0, 0, 0])
        self.assertEqual((total, len(dealing[0])), (0, 2))
        total, dealing, _ = self.cheapest(Town(2, [(0, 1)] * 60), 2, [0] * 30 + [1] * 30)
        self.assertEqual((total, dealt_count(dealing)), (0, 2))

    def test_wages_all_alike(self):
        for seed in range(20):
            town = planted_town(seed, 2)
            for wage in (1, MOST):
                for crews in (1, 2):
                    wages = [wage] * len(town.bridges)
                    self.assertEqual(self.cheapest(town, crews, wages)[0], wage * crews * (town.quarters - 1))

    def test_two_wages_whose_difference_is_1(self):
        for low in (0, 1, 10 ** 18, MOST - 1):
            for place in range(3):
                wages = [low] * 3
                wages[place] = low + 1
                others = [bridge for bridge in range(3) if bridge != place]
                self.assertEqual(self.cheapest(TRIANGLE, 1, wages)[:2], (2 * low, [others]))

    def test_a_town_in_more_pieces_than_one(self):
        for town in (Town(4, [(0, 1), (2, 3)]), Town(3, [(0, 2)] * 60), Town(6, TWO_RINGS.bridges[:6])):
            for crews in (1, 2, 60):
                self.assertIsNone(self.cheapest(town, crews, [5] * len(town.bridges)))

    def test_more_crews_than_there_can_be(self):
        for town in (TWO_RINGS, TRIANGLE, Town(2, [(1, 0)])):
            self.assertIsNotNone(self.cheapest(town, 1, list(range(len(town.bridges)))))
            for crews in (2, 3, 60):
                self.assertIsNone(self.cheapest(town, crews, list(range(len(town.bridges)))))

    def test_a_bridge_that_each_joining_needs_is_dealt_whatever_it_costs(self):
        wages = [1, 2, 1, 2, 1, 2, MOST]
        self.assertEqual(self.cheapest_sum(TWO_RINGS, 1, wages), MOST + 1 + 1 + 2 + 2)

    def test_every_small_town(self):
        for quarters, bridges in ((2, 3), (3, 3), (3, 4), (4, 4)):
            for town in every_town(quarters, bridges):
                for wages in ([1, 0, 2, 1][:bridges], [4, 3, 2, 1][:bridges]):
                    for crews in (1, 2):
                        right = cheapest_by_trying(town, crews, wages)
                        self.assertEqual(self.cheapest_sum(town, crews, wages), right)

    def test_full_towns_of_up_to_five_quarters(self):
        for seed in range(25):
            for town in (full_town(seed, 4, 7), full_town(seed, 4, 9), full_town(seed, 5, 9)):
                for wages in some_wages(seed, town)[:3]:
                    for crews in (1, 2):
                        right = cheapest_by_trying(town, crews, wages)
                        self.assertEqual(self.cheapest_sum(town, crews, wages), right)

    def test_three_crews(self):
        sums = []
        for seed in range(25):
            for town in (full_town(seed, 3, 7), full_town(seed, 4, 10)):
                wages = chance_wages(seed, town, 9)
                sums.append(self.cheapest_sum(town, 3, wages))
                self.assertEqual(sums[-1], cheapest_by_trying(town, 3, wages))
        self.assertTrue(10 < sums.count(None) < 40)


class LargeTowns(WagesCase):
    def test_towns_of_all_sizes(self):
        for seed in range(60):
            town = some_town(seed)
            for wages in some_wages(seed, town):
                for crews in (1, 2, seed % 60 + 1):
                    self.dearest(town, crews, wages)
                    self.cheapest(town, crews, wages)

    def test_joinings_that_are_hidden(self):
        for seed in range(25):
            for joinings in (1, 2, 3):
                town = planted_town(seed, joinings)
                for wages in some_wages(seed, town)[:2]:
                    for crews in range(1, joinings + 1):
                        self.assertIsNotNone(self.cheapest(town, crews, wages))
                town = two_heaps(seed, joinings, joinings - 1)
                self.assertIsNone(self.cheapest(town, joinings, chance_wages(seed, town, 9)))

    def test_the_largest_towns_are_answered_soon(self):
        for seed, quarters in enumerate((2, 3, 4, 7, 13, 21, 24)):
            for town in (full_town(seed, quarters, 60), Town(quarters, [(0, 1)] * 60)):
                wages = chance_wages(seed, town, MOST)
                for crews in (1, 2, 3, 10, 30, 59, 60):
                    self.assert_answered_soon(dearest_dealing, town, crews, wages)
                    self.assert_answered_soon(cheapest_joining, town, crews, wages)

    def test_the_largest_towns_that_can_be_joined_are_answered_soon(self):
        for quarters in (2, 3, 4, 7, 13, 21, 24):
            chance = random.Random(f"joined {quarters}")
            joinings = 60 // (quarters - 1)
            bridges = [pair for _ in range(joinings) for pair in chance_joining(chance, range(quarters))]
            bridges += full_town(3, quarters, 60 - len(bridges)).bridges
            chance.shuffle(bridges)
            town = Town(quarters, bridges)
            wages = chance_wages(4, town, MOST)
            self.assertIsNotNone(self.cheapest(town, joinings, wages))
            self.assert_answered_soon(cheapest_joining, town, joinings, wages)
            self.assert_answered_soon(dearest_dealing, town, joinings, wages)


TOLD_BY_WAGES = (dearest_dealing, cheapest_joining)


class WagesRefused(TownCase):
    def assert_both_refuse(self, refusal, town, crews, wages):
        for function in TOLD_BY_WAGES:
            with self.subTest(function=function.__name__, crews=crews, wages=wages):
                self.assert_refused(refusal, function, town, crews, wages)

    def with_each_wage(self, town, wrong):
        """Wages of which the first, a middle or the last one is another."""
        for place in (0, len(town.bridges) // 2, len(town.bridges) - 1):
            wages = [place for place in range(len(town.bridges))]
            wages[place] = wrong
            yield wages

    def test_one_too_few_and_one_too_many(self):
        for town in (TRIANGLE, TWO_RINGS, Town(4, [(0, 1)]), full_town(1, 24, 60)):
            count = len(town.bridges)
            for wages in ([1] * (count - 1), [1] * (count + 1), [0] * (count - 1), [MOST] * (count + 1), [],
                          [1] * (2 * count)):
                self.assert_both_refuse(BadWages, town, 1, wages)

    def test_wages_where_there_are_no_bridges(self):
        for quarters in (1, 2, 24):
            for wages in ([0], [1], [-1], [MOST], [0, 0]):
                self.assert_both_refuse(BadWages, Town(quarters, []), 1, wages)

    def test_wages_below_nought_and_above_the_most(self):
        for town in (TRIANGLE, TWO_RINGS, Town(4, [(0, 1)]), full_town(1, 24, 60)):
            for wrong in (-1, -2, -MOST, -10 ** 99, MOST + 1, MOST + 2, 10 * MOST, 10 ** 69, 10 ** 99):
                for wages in self.with_each_wage(town, wrong):
                    self.assert_both_refuse(BadWages, town, 1, wages)

    def test_nought_and_the_most_are_taken(self):
        for town in (TRIANGLE, TWO_RINGS, Town(4, [(0, 1)]), full_town(1, 24, 60)):
            for right in (0, 1, MOST - 1, MOST):
                for wages in self.with_each_wage(town, right):
                    for function in TOLD_BY_WAGES:
                        self.ask(function, town, 1, wages)

    def test_no_wages_are_taken_where_there_are_no_bridges(self):
        for quarters in (1, 2, 24):
            for function in TOLD_BY_WAGES:
                self.ask(function, Town(quarters, []), 1, [])

    def test_bad_wages_go_ahead_of_a_bad_count(self):
        for crews in WRONG_COUNTS:
            self.assert_both_refuse(BadWages, TRIANGLE, crews, [1, 2])
            self.assert_both_refuse(BadWages, TRIANGLE, crews, [1, 2, 3, 4])
            self.assert_both_refuse(BadWages, TRIANGLE, crews, [1, 2, -1])
            self.assert_both_refuse(BadWages, TRIANGLE, crews, [MOST + 1, 2, 3])
            self.assert_both_refuse(BadWages, Town(1, []), crews, [0])


class CountRefused(TownCase):
    def test_counts_that_are_not_1_to_60(self):
        for town in (Town(1, []), Town(3, []), TRIANGLE, TWO_RINGS, full_town(1, 24, 60)):
            for function in TOLD_BY_WAGES:
                for crews in WRONG_COUNTS:
                    with self.subTest(function=function.__name__, crews=crews):
                        self.assert_refused(BadCount, function, town, crews, [1] * len(town.bridges))

    def test_each_count_from_1_to_60_is_taken(self):
        for crews in range(1, 61):
            self.assertEqual(dearest_dealing(Town(2, [(0, 1)] * 60), crews, list(range(60)))[0],
                             sum(range(60 - crews, 60)))
            self.assertEqual(cheapest_joining(Town(2, [(0, 1)] * 60), crews, list(range(60)))[1], sum(range(crews)))
