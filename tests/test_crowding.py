"""Points 52 and 53: how crowded a town is, with the quarters and the counted lists that show it."""

from fractions import Fraction

from bridgecrews.crowding import crowding_of
from bridgecrews.errors import TooLarge
from bridgecrews.towns import Town
from town_help import (
    COUNTABLE_TOWNS, TOO_LARGE_TOWNS, CountedCase, closes_ring, every_list, every_town, full_pairs, full_town,
    ring_pairs, some_town, within,
)


def share_within(town, quarters):
    return Fraction(len(within(town, quarters)), len(quarters) - 1)


def crowding_by_trying(town):
    lists = [quarters for quarters in every_list(town.quarters) if len(quarters) > 1]
    return max(share_within(town, quarters) for quarters in lists)


class CrowdingCase(CountedCase):
    def crowding(self, town):
        """The crowding of a town with bridges; all that is told is seen to be right by walking and counting."""
        told = self.ask(crowding_of, town)
        self.assertIs(type(told), tuple)
        crowding, quarters, counted = told
        self.assert_is_fraction(crowding)
        self.assert_is_huddle(town, quarters)
        self.assertEqual(share_within(town, quarters), Fraction(*crowding))
        uses = self.counted_uses(town, crowding[0], counted)
        for bridges, _ in counted:
            self.assertFalse(closes_ring(town, bridges))
        for bridge in range(len(town.bridges)):
            self.assertEqual(uses[bridge], crowding[1])
        return crowding


class Edges(CrowdingCase):
    def test_no_bridges(self):
        for quarters in range(1, 7):
            self.assertEqual(self.ask(crowding_of, Town(quarters, [])), ((0, 1), [], []))

    def test_one_bridge(self):
        for quarters, bridge in ((2, (1, 0)), (6, (5, 2))):
            self.assertEqual(self.ask(crowding_of, Town(quarters, [bridge])), ((1, 1), sorted(bridge), [([0], 1)]))

    def test_bridges_without_a_ring(self):
        for town in (Town(6, [(0, quarter) for quarter in range(1, 6)]), Town(6, [(5, 4), (0, 1)]), Town(3, [(2, 0)])):
            self.assertEqual(self.crowding(town), (1, 1))
            self.assertEqual(self.ask(crowding_of, town)[2], [(list(range(len(town.bridges))), 1)])

    def test_a_ring(self):
        for quarters in (2, 3, 4, 5, 6):
            self.assertEqual(self.crowding(Town(quarters, ring_pairs(range(quarters)))), (quarters, quarters - 1))

    def test_a_ring_of_three_whole(self):
        crowding, quarters, counted = self.ask(crowding_of, Town(3, [(0, 1), (1, 2), (2, 0)]))
        self.assertEqual((crowding, quarters), ((3, 2), [0, 1, 2]))
        self.assertEqual(counted, [([0, 1], 1), ([0, 2], 1), ([1, 2], 1)])

    def test_lists_of_different_lengths_are_told_in_rising_order(self):
        town = Town(3, [(0, 1), (1, 2), (0, 1), (0, 1)])
        self.assertEqual(self.crowding(town), (3, 1))
        lengths = [len(bridges) for bridges, _ in self.ask(crowding_of, town)[2]]
        self.assertEqual(sorted(lengths), [1, 1, 2])

    def test_several_bridges_between_the_same_two_quarters(self):
        for bridges in range(1, 13):
            self.assertEqual(self.crowding(Town(2, [(0, 1)] * bridges)), (bridges, 1))
            self.assertEqual(self.ask(crowding_of, Town(6, [(4, 2)] * bridges))[:2], ((bridges, 1), [2, 4]))
        self.assertEqual(self.crowding(Town(3, [(0, 1)] * 9 + [(1, 2)] * 3)), (9, 1))
        self.assertEqual(self.crowding(Town(3, [(0, 1), (1, 2), (2, 0)] * 3)), (9, 2))

    def test_full_towns_of_few_quarters(self):
        for quarters, crowding in ((2, (1, 1)), (3, (3, 2)), (4, (2, 1)), (5, (5, 2))):
            self.assertEqual(self.crowding(Town(quarters, full_pairs(quarters))), crowding)
            self.assertEqual(self.crowding(Town(6, full_pairs(quarters))), crowding)

    def test_a_crowded_place_in_an_empty_town(self):
        self.assertEqual(self.ask(crowding_of, Town(6, ring_pairs([1, 3, 5]) + [(0, 1)]))[:2], ((3, 2), [1, 3, 5]))
        self.assertEqual(self.ask(crowding_of, Town(6, full_pairs(4) + [(4, 0)]))[:2], ((2, 1), [0, 1, 2, 3]))
        self.assertEqual(self.crowding(Town(6, ring_pairs(range(6)) * 2)), (12, 5))

    def test_six_quarters_with_twelve_bridges(self):
        for town in COUNTABLE_TOWNS:
            self.assertEqual(Fraction(*self.crowding(town)), crowding_by_trying(town))


class AgainstAllQuarters(CrowdingCase):
    def assert_as_tried(self, towns):
        for town in towns:
            if town.bridges:
                self.assertEqual(Fraction(*self.crowding(town)), crowding_by_trying(town), town.bridges)

    def test_every_town_of_two_and_three_quarters(self):
        for bridges in range(1, 6):
            self.assert_as_tried(every_town(2, bridges))
            self.assert_as_tried(every_town(3, bridges))

    def test_every_town_of_four_quarters(self):
        for bridges in range(1, 5):
            self.assert_as_tried(every_town(4, bridges))

    def test_towns_of_all_sizes(self):
        self.assert_as_tried([some_town(seed, 6, 12) for seed in range(150)])
        self.assert_as_tried([full_town(seed, 4 + seed % 3, 9 + seed % 4) for seed in range(150)])


class Refused(CrowdingCase):
    def test_what_is_too_large(self):
        for town in TOO_LARGE_TOWNS:
            with self.subTest(quarters=town.quarters, bridges=len(town.bridges)):
                self.assert_refused(TooLarge, crowding_of, town)


class Soon(CrowdingCase):
    def test_the_largest_towns_are_answered_soon(self):
        for town in COUNTABLE_TOWNS:
            self.assert_answered_soon(crowding_of, town)
