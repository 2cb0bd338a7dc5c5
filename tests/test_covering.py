"""Points 41 and 42: the fewest crews that take all bridges, and huddles that show that no fewer can."""

import random

from bridgecrews.covering import all_by, fewest_crews
from bridgecrews.dealings import is_dealing
from bridgecrews.errors import BadCount
from bridgecrews.partings import bridges_within
from bridgecrews.towns import Town
from town_help import (
    WRONG_COUNTS, TownCase, chance_joining, dealt_count, every_list, every_town, fewest_by_trying, full_pairs,
    full_town, planted_town, some_town, within,
)


def planted_ringless(seed, crews):
    """A town whose bridges are those of so many crews, none closing a ring, not all of them joinings."""
    chance = random.Random(f"ringless {seed} {crews}")
    quarters = chance.randint(2, min(24, 60 // crews + 1))
    bridges = []
    for _ in range(crews):
        own = chance_joining(chance, range(quarters))
        bridges += own[:chance.randint(1, len(own))]
    chance.shuffle(bridges)
    return Town(quarters, bridges)


def with_heap(seed, crews):
    """A town like that, with a heap of quarters in which there are more bridges than so many crews can take."""
    chance = random.Random(f"heap {seed} {crews}")
    heap = chance.sample(range(12), chance.randint(2, 5))
    bridges = [tuple(chance.sample(heap, 2)) for _ in range(crews * (len(heap) - 1) + 1)]
    for _ in range(crews):
        bridges += chance_joining(chance, range(12))[:chance.randint(1, 11)]
    chance.shuffle(bridges)
    return Town(12, bridges)


class CoveringCase(TownCase):
    def assert_all_dealt(self, town, crews, dealing):
        self.assert_is_dealing(town, crews, dealing)
        self.assertEqual(dealt_count(dealing), len(town.bridges))
        self.assertIs(is_dealing(town, dealing), True)

    def assert_too_full(self, town, crews, quarters):
        self.assert_is_huddle(town, quarters)
        self.assertGreater(len(within(town, quarters)), crews * (len(quarters) - 1))
        self.assertEqual(bridges_within(town, quarters), within(town, quarters))

    def taken(self, town, crews):
        """Whether crews are told; what is told is seen to be right by walking and counting."""
        told = self.ask(all_by, town, crews)
        self.assertIs(type(told), tuple)
        self.assertEqual(len(told), 2)
        self.assertIs(type(told[0]), str)
        self.assertIn(told[0], ("crews", "huddle"))
        if told[0] == "crews":
            self.assert_all_dealt(town, crews, told[1])
        else:
            self.assert_too_full(town, crews, told[1])
        return told[0] == "crews"

    def fewest(self, town):
        """The count of crews, seen to be right likewise, and held against all_by for some numbers of crews."""
        told = self.ask(fewest_crews, town)
        self.assertIs(type(told), tuple)
        count, dealing, huddle = told
        self.assertIs(type(count), int)
        self.assert_all_dealt(town, count, dealing)
        if town.bridges:
            self.assert_too_full(town, count - 1, huddle)
        else:
            self.assertEqual(told, (0, [], []))
        for crews in (1, count - 1, count, count + 1, 60):
            if 1 <= crews <= 60:
                self.assertIs(self.taken(town, crews), crews >= count)
        return count


class Edges(CoveringCase):
    def test_no_bridges(self):
        for quarters in (1, 2, 3, 24):
            town = Town(quarters, [])
            self.assertEqual(self.ask(fewest_crews, town), (0, [], []))
            for crews in (1, 2, 60):
                self.assertEqual(self.ask(all_by, town, crews), ("crews", [[]] * crews))

    def test_one_bridge(self):
        for quarters, bridge in ((2, (1, 0)), (24, (17, 5))):
            self.assertEqual(self.ask(fewest_crews, Town(quarters, [bridge])), (1, [[0]], sorted(bridge)))

    def test_bridges_without_a_ring(self):
        for quarters in (3, 4, 24):
            town = Town(quarters, [(quarter + 1, quarter) for quarter in range(quarters - 1)])
            self.assertEqual(self.fewest(town), 1)

    def test_several_bridges_between_two_quarters(self):
        for bridges in (1, 2, 3, 59, 60):
            for town in (Town(2, [(0, 1)] * bridges), Town(24, [(20, 3)] * bridges)):
                for crews in (1, 2, 3, 4, 59, 60):
                    self.assertIs(self.taken(town, crews), crews >= bridges)
                self.assertEqual(self.fewest(town), bridges)

    def test_a_ring_and_full_towns_of_few_quarters(self):
        self.assertEqual(self.fewest(Town(3, [(0, 1), (1, 2), (2, 0)])), 2)
        for quarters, count in ((4, 2), (5, 3), (6, 3), (7, 4)):
            self.assertEqual(self.fewest(Town(quarters, full_pairs(quarters))), count)

    def test_two_full_places_of_which_one_is_fuller(self):
        # Within the first huddle two crews can take all, within the second one three have to.
        for bridges in ([(0, 1)] * 2 + [(2, 3)] * 3, [(2, 3)] * 3 + [(0, 1)] * 2, [(0, 1)] * 3 + [(2, 3)] * 2):
            town = Town(5, bridges)
            self.assertEqual(self.fewest(town), 3)
            self.assertFalse(self.taken(town, 1))
            self.assertFalse(self.taken(town, 2))

    def test_a_place_that_is_just_full_is_not_told(self):
        # For two crews the first three quarters are full, but only the last two hold a bridge too many.
        town = Town(5, [(0, 1), (1, 2), (0, 2), (0, 1), (3, 4), (3, 4), (3, 4)])
        self.assertEqual(self.ask(all_by, town, 2), ("huddle", [3, 4]))


class Planted(CoveringCase):
    def test_crews_without_a_ring(self):
        for seed in range(60):
            for crews in (1, 2, 3):
                town = planted_ringless(seed, crews)
                self.assertTrue(self.taken(town, crews))
                self.assertLessEqual(self.fewest(town), crews)

    def test_crews_that_each_join_all(self):
        for seed in range(30):
            for crews in (1, 2, 3):
                self.assertEqual(self.fewest(planted_town(seed, crews, 0)), crews)
                self.assertEqual(self.fewest(planted_town(seed, crews, 1)), crews + 1)

    def test_a_heap_with_more_bridges_than_so_many_can_take(self):
        for seed in range(60):
            for crews in (1, 2, 3):
                town = with_heap(seed, crews)
                for fewer in range(1, crews + 1):
                    self.assertFalse(self.taken(town, fewer))
                self.assertGreater(self.fewest(town), crews)


class SmallTowns(CoveringCase):
    def assert_as_tried(self, towns):
        for town in towns:
            count = fewest_by_trying(town)
            self.assertEqual(self.fewest(town), count, town.bridges)
            for crews in range(1, count + 3):
                self.assertIs(self.taken(town, crews), crews >= count)

    def test_every_town_of_two_quarters(self):
        for bridges in range(6):
            self.assert_as_tried(every_town(2, bridges))

    def test_every_town_of_three_quarters(self):
        for bridges in range(5):
            self.assert_as_tried(every_town(3, bridges))

    def test_every_town_of_four_quarters(self):
        for bridges in range(4):
            self.assert_as_tried(every_town(4, bridges))

    def test_towns_of_up_to_five_quarters(self):
        self.assert_as_tried([some_town(seed, 5, 7) for seed in range(30)])

    def test_towns_against_all_lists_of_quarters(self):
        for seed in range(80):
            town = some_town(seed, 6, 25)
            lists = [quarters for quarters in every_list(town.quarters) if len(quarters) > 1]
            count = max(-(-len(within(town, quarters)) // (len(quarters) - 1)) for quarters in lists)
            self.assertEqual(self.fewest(town), count)


class Refused(CoveringCase):
    def test_counts_that_are_not_1_to_60(self):
        for town in (Town(1, []), Town(4, []), Town(3, [(0, 1), (1, 2), (2, 0)]), full_town(1, 24, 60)):
            for crews in WRONG_COUNTS:
                with self.subTest(crews):
                    self.assert_refused(BadCount, all_by, town, crews)

    def test_each_count_from_1_to_60_is_taken(self):
        for crews in range(1, 61):
            self.assertIs(self.taken(Town(3, [(0, 2)] * 7), crews), crews >= 7)


class LargeTowns(CoveringCase):
    def test_towns_of_all_sizes(self):
        for seed in range(100):
            town = some_town(seed)
            self.fewest(town)
            self.taken(town, seed % 60 + 1)

    def test_full_towns(self):
        for seed in range(4):
            for quarters in (2, 3, 5, 8, 12, 24):
                self.fewest(full_town(seed, quarters, 60))

    def test_the_largest_towns_are_answered_soon(self):
        for seed, quarters in enumerate((2, 3, 4, 7, 13, 21, 24)):
            for town in (full_town(seed, quarters, 60), Town(quarters, [(0, 1)] * 60)):
                self.assert_answered_soon(fewest_crews, town)
                for crews in (1, 2, 3, 10, 30, 60):
                    self.assert_answered_soon(all_by, town, crews)
