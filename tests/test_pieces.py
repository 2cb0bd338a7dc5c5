"""Points 13, 14 and 15: pieces, ways and rings."""

import random

from bridgecrews.pieces import joins_all, pieces_of, ring_over, way_over
from bridgecrews.towns import Town
from town_help import (
    TownCase, all_ways, closes_ring, every_list, every_town, full_town, is_ring, is_way, pieces_by_spreading, some_town,
)


def every_bridge(town):
    return list(range(len(town.bridges)))


def chosen_bridges(town, seed):
    chance = random.Random(seed)
    return [bridge for bridge in every_bridge(town) if chance.random() < 0.4]


def small_towns():
    for quarters, bridges in ((1, 0), (2, 0), (2, 1), (2, 3), (3, 3), (4, 3), (3, 4), (4, 4)):
        if quarters == 1:
            yield Town(1, [])
        else:
            yield from every_town(quarters, bridges)


class Pieces(TownCase):
    def assert_pieces(self, town, some, pieces):
        told = self.ask(pieces_of, town, some)
        self.assertIs(type(told), list)
        for piece in told:
            self.assert_rising_list(piece)
        self.assertEqual(told, pieces)
        self.assertIs(self.ask(joins_all, town, some), len(pieces) == 1)

    def test_one_quarter(self):
        self.assert_pieces(Town(1, []), [], [[0]])

    def test_no_bridges(self):
        for quarters in (2, 3, 24):
            self.assert_pieces(Town(quarters, []), [], [[quarter] for quarter in range(quarters)])

    def test_none_of_the_bridges(self):
        self.assert_pieces(Town(3, [(0, 1), (1, 2)]), [], [[0], [1], [2]])

    def test_some_of_the_bridges(self):
        town = Town(4, [(0, 1), (1, 2), (2, 3), (3, 0)])
        self.assert_pieces(town, [0], [[0, 1], [2], [3]])
        self.assert_pieces(town, [3], [[0, 3], [1], [2]])
        self.assert_pieces(town, [0, 2], [[0, 1], [2, 3]])
        self.assert_pieces(town, [1, 3], [[0, 3], [1, 2]])
        self.assert_pieces(town, [0, 1, 2], [[0, 1, 2, 3]])
        self.assert_pieces(town, [0, 1, 2, 3], [[0, 1, 2, 3]])

    def test_several_bridges_between_the_same_two_quarters(self):
        town = Town(3, [(0, 2), (2, 0), (0, 2)])
        self.assert_pieces(town, [0, 1, 2], [[0, 2], [1]])
        self.assert_pieces(town, [1], [[0, 2], [1]])
        self.assert_pieces(Town(2, [(1, 0)] * 60), every_bridge(Town(2, [(1, 0)] * 60)), [[0, 1]])

    def test_pieces_whose_quarters_are_mixed(self):
        town = Town(7, [(6, 2), (5, 1), (3, 0), (2, 4), (5, 3)])
        self.assert_pieces(town, [0, 1, 2, 3, 4], [[0, 1, 3, 5], [2, 4, 6]])
        self.assert_pieces(town, [0, 1, 2, 3], [[0, 3], [1, 5], [2, 4, 6]])

    def test_a_long_row_against_the_order_of_the_quarters(self):
        town = Town(24, [(quarter + 1, quarter) for quarter in reversed(range(23))])
        self.assert_pieces(town, every_bridge(town), [list(range(24))])
        self.assert_pieces(town, every_bridge(town)[:-1], [[0], list(range(1, 24))])

    def test_twenty_four_quarters_with_sixty_bridges(self):
        for seed in range(20):
            town = full_town(seed, 24, 60)
            for some in (every_bridge(town), chosen_bridges(town, seed)):
                self.assert_pieces(town, some, pieces_by_spreading(town, some))

    def test_some_bridges_of_every_small_town(self):
        for town in small_towns():
            for some in every_list(len(town.bridges)):
                self.assert_pieces(town, some, pieces_by_spreading(town, some))


class Ways(TownCase):
    def assert_way(self, town, some, one, other, length):
        way = self.ask(way_over, town, some, one, other)
        if length is None:
            self.assertIsNone(way)
            return
        self.assertIs(type(way), list)
        self.assertTrue(is_way(town, some, one, other, way), (town.bridges, some, one, other, way))
        self.assertEqual(len(way), length)

    def test_from_a_quarter_to_itself(self):
        for town in (Town(1, []), Town(3, [(0, 1), (1, 0), (1, 2)]), full_town(1, 24, 60)):
            for quarter in range(town.quarters):
                for some in ([], every_bridge(town)):
                    self.assertEqual(self.ask(way_over, town, some, quarter, quarter), [])

    def test_to_a_neighbour_over_one_of_several_bridges(self):
        town = Town(3, [(0, 1), (2, 1), (1, 0), (0, 1)])
        self.assert_way(town, [0, 1, 2, 3], 0, 1, 1)
        self.assert_way(town, [0, 1, 2, 3], 1, 0, 1)
        self.assertEqual(self.ask(way_over, town, [1, 2], 0, 1), [2])
        self.assertEqual(self.ask(way_over, town, [1, 2], 1, 0), [2])

    def test_a_way_of_several_bridges_is_told_from_its_beginning(self):
        town = Town(4, [(3, 2), (0, 1), (2, 1)])
        self.assertEqual(self.ask(way_over, town, [0, 1, 2], 0, 3), [1, 2, 0])
        self.assertEqual(self.ask(way_over, town, [0, 1, 2], 3, 0), [0, 2, 1])
        self.assertEqual(self.ask(way_over, town, [0, 1, 2], 1, 3), [2, 0])

    def test_the_short_way_wherever_its_bridges_stand(self):
        long_way = [(0, 1), (1, 2), (2, 3), (3, 4), (4, 5)]
        for short_way in ([(0, 5)], [(5, 0)], [(0, 6), (6, 5)], [(6, 5), (6, 0)], [(7, 6), (5, 7), (0, 6)]):
            for seed in range(30):
                bridges = long_way + short_way
                random.Random(seed).shuffle(bridges)
                for order in (bridges, long_way + short_way, short_way + long_way):
                    town = Town(8, order)
                    self.assert_way(town, every_bridge(town), 0, 5, len(short_way))
                    self.assert_way(town, every_bridge(town), 5, 0, len(short_way))

    def test_the_long_way_where_the_short_one_is_left_out(self):
        town = Town(4, [(0, 3), (0, 1), (1, 2), (2, 3)])
        self.assertEqual(self.ask(way_over, town, [1, 2, 3], 0, 3), [1, 2, 3])
        self.assertEqual(self.ask(way_over, town, [0, 1, 2, 3], 0, 3), [0])

    def test_where_there_is_none(self):
        town = Town(4, [(0, 1), (2, 3), (0, 1), (1, 2)])
        self.assertIsNone(self.ask(way_over, town, [0, 1, 2], 0, 3))
        self.assertIsNone(self.ask(way_over, town, [0, 1, 2], 2, 1))
        self.assertIsNone(self.ask(way_over, town, [], 0, 1))
        self.assertIsNone(self.ask(way_over, Town(2, []), [], 1, 0))

    def test_all_ways_of_small_towns(self):
        for town in small_towns():
            for some in (every_bridge(town), every_bridge(town)[1:], every_bridge(town)[::2]):
                for one in range(town.quarters):
                    for other in range(town.quarters):
                        ways = all_ways(town, some, one, other)
                        self.assert_way(town, some, one, other, min(map(len, ways), default=None))

    def test_all_ways_of_towns_of_six_quarters(self):
        for seed in range(60):
            town = some_town(seed, 6, 10)
            some = every_bridge(town) if seed % 2 else chosen_bridges(town, seed)
            for one in range(town.quarters):
                for other in range(town.quarters):
                    ways = all_ways(town, some, one, other)
                    self.assert_way(town, some, one, other, min(map(len, ways), default=None))

    def test_a_way_over_the_whole_town(self):
        town = Town(24, [(quarter, quarter + 1) for quarter in range(23)])
        self.assertEqual(self.ask(way_over, town, every_bridge(town), 0, 23), list(range(23)))
        self.assertEqual(self.ask(way_over, town, every_bridge(town), 23, 0), list(reversed(range(23))))


class Rings(TownCase):
    def assert_ring(self, town, some, members=None):
        ring = self.ask(ring_over, town, some)
        self.assertIs(type(ring), list)
        self.assertTrue(is_ring(town, some, ring), (town.bridges, some, ring))
        if members is not None:
            self.assertEqual(sorted(ring), members)

    def test_two_bridges_between_the_same_two_quarters(self):
        for bridges in ([(0, 1), (0, 1)], [(0, 1), (1, 0)], [(2, 1), (1, 2)]):
            self.assert_ring(Town(3, bridges), [0, 1], [0, 1])
        self.assert_ring(Town(4, [(0, 1), (1, 2), (3, 2), (2, 1)]), [0, 1, 2, 3], [1, 3])

    def test_a_ring_of_three_and_more(self):
        for quarters in range(3, 25):
            bridges = [(quarter, (quarter + 1) % quarters) for quarter in range(quarters)]
            self.assert_ring(Town(quarters, bridges), list(range(quarters)), list(range(quarters)))
            random.Random(quarters).shuffle(bridges)
            turned = [bridge[::-1] if place % 3 else bridge for place, bridge in enumerate(bridges)]
            self.assert_ring(Town(quarters, turned), list(range(quarters)), list(range(quarters)))

    def test_a_ring_with_tails(self):
        ring = [(2, 4), (4, 6), (6, 3), (3, 2)]
        tails = [(0, 2), (1, 0), (6, 5), (5, 7), (8, 3)]
        for seed in range(40):
            bridges = ring + tails
            random.Random(seed).shuffle(bridges)
            members = sorted(bridges.index(bridge) for bridge in ring)
            self.assert_ring(Town(9, bridges), list(range(9)), members)

    def test_bridges_that_close_none(self):
        town = Town(6, [(0, 1), (1, 2), (2, 0), (3, 4), (4, 5), (0, 1)])
        for some in ([0], [0, 1], [1, 2, 3, 4], [0, 2, 3, 4], [1, 5], [2, 3, 5]):
            self.assertIsNone(self.ask(ring_over, town, some))
        self.assertIsNone(self.ask(ring_over, Town(24, [(0, end) for end in range(1, 24)]), list(range(23))))

    def test_a_ring_of_the_chosen_bridges_alone(self):
        town = Town(4, [(0, 1), (1, 2), (2, 0), (0, 1), (2, 3)])
        self.assert_ring(town, [0, 1, 2, 4], [0, 1, 2])
        self.assert_ring(town, [1, 2, 3, 4], [1, 2, 3])
        self.assert_ring(town, [0, 3, 4], [0, 3])
        self.assert_ring(town, [0, 1, 2, 3, 4])

    def test_the_empty_list(self):
        for town in (Town(1, []), Town(3, []), Town(2, [(0, 1), (0, 1)]), full_town(3, 24, 60)):
            self.assertIsNone(self.ask(ring_over, town, []))

    def test_some_bridges_of_every_small_town(self):
        for town in small_towns():
            for some in every_list(len(town.bridges)):
                if closes_ring(town, some):
                    self.assert_ring(town, some)
                else:
                    self.assertIsNone(self.ask(ring_over, town, some))

    def test_larger_towns(self):
        for seed in range(200):
            town = some_town(seed)
            for some in (every_bridge(town), chosen_bridges(town, seed)):
                if closes_ring(town, some):
                    self.assert_ring(town, some)
                else:
                    self.assertIsNone(self.ask(ring_over, town, some))
