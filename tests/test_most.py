"""Point 23: the most bridges that can be dealt out, and the huddles that show it."""

from bridgecrews.dealings import is_dealing, shows_most
from bridgecrews.errors import BadCount
from bridgecrews.most import most_dealt
from bridgecrews.towns import Town
from town_help import (
    WRONG_COUNTS, TownCase, closes_ring, dealt_count, every_huddles, every_town, full_town, most_by_huddles,
    most_by_trying, some_town,
)


class MostCase(TownCase):
    def dealt(self, town, crews):
        """The dealing and the huddles, seen to be right by counting, and by the program's own word."""
        told = self.ask(most_dealt, town, crews)
        self.assertIs(type(told), tuple)
        dealing, huddles = told
        self.assert_is_dealing(town, crews, dealing)
        self.assert_are_huddles(town, huddles)
        self.assertEqual(dealt_count(dealing), most_by_huddles(town, crews, huddles))
        taken = sum(dealing, [])
        for bridge in range(len(town.bridges)):
            if bridge not in taken:
                self.assertTrue(any(set(town.bridges[bridge]) <= set(huddle) for huddle in huddles))
        self.assertIs(is_dealing(town, dealing), True)
        self.assertIs(shows_most(town, dealing, huddles), True)
        return dealing, huddles


class SmallTowns(MostCase):
    def assert_as_tried(self, towns, crew_counts):
        for town in towns:
            for crews in crew_counts:
                dealing = self.dealt(town, crews)[0]
                self.assertEqual(dealt_count(dealing), most_by_trying(town, crews), (town.bridges, crews))

    def test_every_town_of_two_quarters(self):
        for bridges in range(6):
            self.assert_as_tried(every_town(2, bridges), (1, 2, 3, 4))

    def test_every_town_of_three_quarters(self):
        for bridges in range(5):
            self.assert_as_tried(every_town(3, bridges), (1, 2, 3))

    def test_every_town_of_four_quarters(self):
        for bridges in range(4):
            self.assert_as_tried(every_town(4, bridges), (1, 2))

    def test_towns_of_up_to_five_quarters(self):
        self.assert_as_tried([some_town(seed, 5, 7) for seed in range(120)], (1, 2))

    def test_towns_against_all_huddles(self):
        for seed in range(150):
            town = some_town(seed, 6, 16)
            for crews in (1, 2, 3, 4):
                dealing = self.dealt(town, crews)[0]
                least = min(most_by_huddles(town, crews, huddles) for huddles in every_huddles(town.quarters))
                self.assertEqual(dealt_count(dealing), least)


class Edges(MostCase):
    def test_one_quarter(self):
        for crews in (1, 2, 60):
            self.assertEqual(self.dealt(Town(1, []), crews), ([[]] * crews, []))

    def test_no_bridges(self):
        for quarters in (2, 24):
            for crews in (1, 60):
                dealing = self.dealt(Town(quarters, []), crews)[0]
                self.assertEqual(dealing, [[]] * crews)

    def test_more_crews_than_bridges(self):
        for bridges in ([(0, 1)], [(0, 1), (1, 0)], [(0, 1), (1, 2), (2, 0), (0, 1)]):
            for crews in (len(bridges), len(bridges) + 1, 60):
                dealing = self.dealt(Town(3, bridges), crews)[0]
                self.assertEqual(dealt_count(dealing), len(bridges))

    def test_sixty_bridges_between_the_same_two_quarters(self):
        for crews in (1, 2, 30, 59, 60):
            dealing = self.dealt(Town(2, [(0, 1)] * 60), crews)[0]
            self.assertEqual(dealt_count(dealing), crews)
            dealing = self.dealt(Town(24, [(17, 5)] * 60), crews)[0]
            self.assertEqual(dealt_count(dealing), crews)

    def test_a_bridge_that_makes_others_make_room(self):
        # Dealt as they come, the first three go to one crew and the next two to the other; the last one then closes
        # a ring with either, and is dealt only where others move.
        town = Town(4, [(0, 1), (1, 2), (2, 3), (0, 3), (1, 3), (0, 1)])
        as_they_come = [[0, 1, 2], [3, 4]]
        self.assertTrue(all(closes_ring(town, own + [5]) for own in as_they_come))
        self.assertTrue(all(closes_ring(town, as_they_come[0] + [bridge]) for bridge in as_they_come[1]))
        self.assertEqual(dealt_count(self.dealt(town, 2)[0]), 6)
        for seed in range(30):
            chosen = full_town(seed, 4, 6)
            self.assertEqual(dealt_count(self.dealt(chosen, 2)[0]), most_by_trying(chosen, 2))

    def test_two_full_places_that_share_a_quarter(self):
        town = Town(5, [(0, 1), (0, 1), (1, 2), (2, 1), (3, 4), (3, 4), (2, 3)])
        self.assertEqual(dealt_count(self.dealt(town, 1)[0]), 4)
        mixed = Town(5, [(1, 4), (4, 1), (0, 3), (3, 0), (4, 3), (3, 4), (2, 4)])
        self.assertEqual(dealt_count(self.dealt(mixed, 1)[0]), 4)

    def test_full_places_are_told_in_the_order_of_their_least_quarters(self):
        town = Town(6, [(4, 5), (5, 4), (2, 3), (3, 2), (0, 1), (1, 0)])
        self.assertEqual(self.dealt(town, 1)[1], [[0, 1], [2, 3], [4, 5]])


class CountRefused(MostCase):
    def test_counts_that_are_not_1_to_60(self):
        for town in (Town(1, []), Town(3, [(0, 1), (1, 2), (2, 0)]), full_town(1, 24, 60)):
            for crews in WRONG_COUNTS:
                with self.subTest(crews):
                    self.assert_refused(BadCount, most_dealt, town, crews)

    def test_each_count_from_1_to_60_is_taken(self):
        for crews in range(1, 61):
            self.dealt(Town(3, [(0, 1), (1, 2), (2, 0), (0, 1)]), crews)


class LargeTowns(MostCase):
    def test_towns_of_all_sizes(self):
        for seed in range(300):
            town = some_town(seed)
            for crews in (1, 2, 3, seed % 60 + 1):
                self.dealt(town, crews)

    def test_full_towns_with_every_number_of_crews(self):
        for crews in range(1, 61):
            for quarters in (2, 3, 5, 8, 12, 24):
                self.dealt(full_town(crews, quarters, 60), crews)

    def test_towns_with_a_full_place_and_a_rest(self):
        for seed in range(60):
            tight, wide = full_town(seed, 6, 30), full_town(seed, 24, 30)
            for bridges in (tight.bridges + wide.bridges, wide.bridges + tight.bridges):
                for crews in (1, 2, 3, 4, 5):
                    self.dealt(Town(24, bridges), crews)

    def test_bridges_for_just_so_many_crews(self):
        # Rows over all quarters, each in another order: all bridges can be dealt out, but seldom as they come.
        for crews in (2, 3, 4, 6):
            quarters = 60 // crews + 1 if crews > 2 else 24
            bridges = []
            for crew in range(crews):
                stride = [step for step in range(1, quarters) if quarters % step or step == 1][crew % 5]
                order = sorted(range(quarters), key=lambda quarter: (quarter * stride % quarters, quarter))
                bridges += list(zip(order, order[1:]))
            bridges = sorted(bridges[:60], key=lambda bridge: (sum(bridge) % 7, bridge))
            dealing = self.dealt(Town(quarters, bridges), crews)[0]
            self.assertEqual(dealt_count(dealing), len(bridges))

    def test_the_largest_towns_are_answered_soon(self):
        for crews in (1, 2, 3, 4, 5, 10, 20, 30, 59, 60):
            for quarters in (2, 3, 7, 13, 24):
                town = full_town(crews, quarters, 60)
                self.assert_answered_soon(most_dealt, town, crews)
