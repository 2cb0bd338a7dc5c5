"""Points 31 and 32: crews that each join the whole town, and partings that show that no more can."""

from bridgecrews.dealings import is_dealing
from bridgecrews.errors import BadCount, TooSmall
from bridgecrews.joining import joining_crews, most_joining
from bridgecrews.partings import bridges_between
from bridgecrews.pieces import joins_all
from bridgecrews.towns import Town
from town_help import (
    WRONG_COUNTS, TownCase, between, every_grouping, every_town, full_pairs, full_town, most_joining_by_trying,
    pieces_by_spreading, planted_town, some_town, two_heaps,
)

# Two rings of three with one bridge between them: joined, but by one crew alone.
TWO_RINGS = Town(6, [(0, 2), (1, 3), (2, 4), (3, 5), (4, 0), (5, 1), (4, 3)])
APART = Town(6, [(0, 2), (1, 3), (2, 4), (3, 5), (4, 0), (5, 1)])


class JoiningCase(TownCase):
    def assert_all_join(self, town, crews, dealing):
        self.assert_is_dealing(town, crews, dealing)
        for own in dealing:
            self.assert_is_joining(town, own)
            self.assertIs(joins_all(town, own), True)
        self.assertIs(is_dealing(town, dealing), True)

    def assert_parted(self, town, crews, parting):
        self.assert_is_parting(town, parting)
        self.assertLess(len(between(town, parting)), crews * (len(parting) - 1))
        self.assertEqual(bridges_between(town, parting), between(town, parting))

    def joined(self, town, crews):
        """Whether crews are told; what is told is seen to be right by walking and counting."""
        told = self.ask(joining_crews, town, crews)
        self.assertIs(type(told), tuple)
        self.assertEqual(len(told), 2)
        self.assertIs(type(told[0]), str)
        self.assertIn(told[0], ("crews", "parting"))
        if told[0] == "crews":
            self.assert_all_join(town, crews, told[1])
        else:
            self.assert_parted(town, crews, told[1])
        return told[0] == "crews"

    def most(self, town):
        """The count of crews, seen to be right likewise, and held against joining_crews for some numbers of crews."""
        told = self.ask(most_joining, town)
        self.assertIs(type(told), tuple)
        count, dealing, parting = told
        self.assertIs(type(count), int)
        self.assert_all_join(town, count, dealing)
        self.assert_parted(town, count + 1, parting)
        for crews in (1, count - 1, count, count + 1, 60):
            if 1 <= crews <= 60:
                self.assertIs(self.joined(town, crews), crews <= count)
        return count


class Edges(JoiningCase):
    def test_one_quarter(self):
        for crews in (1, 2, 59, 60):
            self.assertEqual(self.ask(joining_crews, Town(1, []), crews), ("crews", [[]] * crews))

    def test_no_bridges(self):
        for quarters in (2, 3, 24):
            for crews in (1, 2, 60):
                self.assertFalse(self.joined(Town(quarters, []), crews))
            self.assertEqual(self.most(Town(quarters, [])), 0)

    def test_several_bridges_between_two_quarters(self):
        for bridges in (1, 2, 3, 59, 60):
            town = Town(2, ([(0, 1), (1, 0)] * 30)[:bridges])
            for crews in (1, 2, 3, 4, 59, 60):
                self.assertIs(self.joined(town, crews), crews <= bridges)
            self.assertEqual(self.ask(most_joining, town)[2], [[0], [1]])
            self.assertEqual(self.most(town), bridges)

    def test_a_town_in_more_pieces_than_one(self):
        for town in (APART, Town(3, [(0, 2)] * 60), Town(24, [(3, 4)] * 30 + [(4, 5)] * 30), Town(4, [(0, 1), (2, 3)])):
            for crews in (1, 2, 60):
                self.assertFalse(self.joined(town, crews))
            self.assertEqual(self.ask(most_joining, town)[:2], (0, []))
            self.assertEqual(self.most(town), 0)

    def test_more_crews_than_there_can_be(self):
        for town in (TWO_RINGS, Town(3, [(0, 1), (1, 2), (2, 0)]), Town(2, [(1, 0)])):
            self.assertTrue(self.joined(town, 1))
            for crews in (2, 3, 60):
                self.assertFalse(self.joined(town, crews))
            self.assertEqual(self.most(town), 1)

    def test_full_towns_of_few_quarters(self):
        for quarters, count in ((4, 2), (5, 2), (6, 3), (7, 3)):
            self.assertEqual(self.most(Town(quarters, full_pairs(quarters))), count)

    def test_a_dealing_as_bridges_come_would_not_do(self):
        # The first crew would take 0, 1 and 2, and the other could then join no more than three quarters.
        town = Town(4, [(0, 1), (1, 2), (2, 3), (0, 1), (1, 2), (0, 2)])
        self.assertFalse(self.joined(town, 2))
        town = Town(4, [(0, 1), (1, 2), (2, 3), (0, 3), (1, 3), (0, 1)])
        self.assertTrue(self.joined(town, 2))


class PlantedJoinings(JoiningCase):
    def test_as_many_crews_and_fewer(self):
        for seed in range(25):
            for joinings in (1, 2, 3):
                town = planted_town(seed, joinings)
                for crews in range(1, joinings + 1):
                    self.assertTrue(self.joined(town, crews), (town.bridges, crews))
                self.joined(town, joinings + 1)
                self.assertGreaterEqual(self.most(town), joinings)

    def test_one_crew_more_than_there_are_bridges_for(self):
        for seed in range(40):
            for joinings in (1, 2, 3):
                town = planted_town(seed, joinings, 0)
                self.assertTrue(self.joined(town, joinings))
                self.assertFalse(self.joined(town, joinings + 1))
                self.assertEqual(self.most(town), joinings)

    def test_two_heaps_with_few_bridges_between(self):
        for seed in range(30):
            for joinings in (2, 3):
                for few in range(joinings):
                    town = two_heaps(seed, joinings, few)
                    for crews in range(1, joinings + 2):
                        self.assertIs(self.joined(town, crews), crews <= few)
                    self.assertEqual(self.most(town), few)

    def test_two_heaps_with_enough_bridges_between(self):
        for seed in range(30):
            for joinings in (1, 2, 3):
                town = two_heaps(seed, joinings, joinings)
                self.assertTrue(self.joined(town, joinings))
                self.assertEqual(self.most(town), joinings)


class SmallTowns(JoiningCase):
    def assert_as_tried(self, towns):
        for town in towns:
            count = most_joining_by_trying(town)
            self.assertEqual(self.most(town), count, town.bridges)
            for crews in range(1, count + 3):
                self.assertIs(self.joined(town, crews), crews <= count)

    def test_every_town_of_two_quarters(self):
        for bridges in range(6):
            self.assert_as_tried(every_town(2, bridges))

    def test_every_town_of_three_quarters(self):
        for bridges in range(6):
            self.assert_as_tried(every_town(3, bridges))

    def test_every_town_of_four_quarters(self):
        for bridges in range(4):
            self.assert_as_tried(every_town(4, bridges))

    def test_full_towns_of_up_to_five_quarters(self):
        for seed in range(60):
            self.assert_as_tried([full_town(seed, 4, 7), full_town(seed, 4, 9), full_town(seed, 5, 9)])

    def test_towns_against_all_partings(self):
        for seed in range(80):
            town = some_town(seed, 6, 25)
            partings = [parting for parting in every_grouping(list(range(town.quarters))) if len(parting) > 1]
            count = min(len(between(town, parting)) // (len(parting) - 1) for parting in partings)
            self.assertEqual(self.most(town), count)


class Refused(JoiningCase):
    def test_counts_that_are_not_1_to_60(self):
        for town in (Town(1, []), TWO_RINGS, APART, full_town(1, 24, 60)):
            for crews in WRONG_COUNTS:
                with self.subTest(crews):
                    self.assert_refused(BadCount, joining_crews, town, crews)

    def test_each_count_from_1_to_60_is_taken(self):
        for crews in range(1, 61):
            self.assertIs(self.joined(Town(2, [(0, 1)] * 7), crews), crews <= 7)

    def test_a_town_of_one_quarter_has_no_most(self):
        self.assert_refused(TooSmall, most_joining, Town(1, []))
        self.assertEqual(self.most(Town(2, [])), 0)


class LargeTowns(JoiningCase):
    def test_towns_of_all_sizes(self):
        for seed in range(100):
            town = some_town(seed)
            self.assertEqual(self.most(town) > 0, len(pieces_by_spreading(town, range(len(town.bridges)))) == 1)
            self.joined(town, seed % 60 + 1)

    def test_full_towns(self):
        for seed in range(4):
            for quarters in (2, 3, 5, 8, 12, 24):
                self.most(full_town(seed, quarters, 60))

    def test_the_largest_towns_are_answered_soon(self):
        for seed, quarters in enumerate((2, 3, 4, 7, 13, 21, 24)):
            for town in (full_town(seed, quarters, 60), Town(quarters, [(0, 1)] * 60)):
                self.assert_answered_soon(most_joining, town)
                for crews in (1, 2, 3, 10, 30, 60):
                    self.assert_answered_soon(joining_crews, town, crews)
