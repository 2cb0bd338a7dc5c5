"""Points 11 and 71, and points 1 to 3 as far as they speak of towns and streets: both are made and refused alike."""

import unittest

from bridgecrews.errors import BadTown, CrewError
from bridgecrews.streets import Streets
from bridgecrews.towns import Town

SIXTY_FIGURES = 10 ** 59 + 7
SEVENTY_FIGURES = 10 ** 70 - 1
MADE = (Town, Streets)


def pairs_of(made):
    return made.streets if isinstance(made, Streets) else made.bridges


def good_bridges(quarters, count):
    pairs = [(one, other) for one in range(quarters) for other in range(quarters) if one != other]
    return [pairs[place % len(pairs)] for place in range(count)]


def with_bridge_at_each_place(bridge, quarters):
    bridges = good_bridges(quarters, 6)
    return [bridges[:place] + [bridge] + bridges[place:] for place in (0, 3, 6)]


class TownCase(unittest.TestCase):
    def assert_refused(self, quarters, bridges):
        before = list(bridges)
        for make in MADE:
            with self.assertRaises(BadTown) as caught:
                make(quarters, bridges)
            self.assertIs(type(caught.exception), BadTown)
            self.assertEqual(caught.exception.called(), "BadTown")
            self.assertIsInstance(caught.exception, CrewError)
            self.assertEqual(bridges, before)

    def assert_taken(self, quarters, bridges):
        before = list(bridges)
        for make in MADE:
            made = make(quarters, bridges)
            self.assertIs(type(made.quarters), int)
            self.assertEqual(made.quarters, quarters)
            self.assertIs(type(pairs_of(made)), list)
            self.assertEqual(pairs_of(made), before)
            for pair in pairs_of(made):
                self.assertIs(type(pair), tuple)
            self.assertEqual(bridges, before)
            self.assertIsNot(pairs_of(made), bridges)


class QuartersRefused(TownCase):
    def test_numbers_that_are_not_1_to_24(self):
        for quarters in (0, 25, 26, -1, -24, 60, 61, SIXTY_FIGURES, -SIXTY_FIGURES,
                         SEVENTY_FIGURES, -SEVENTY_FIGURES):
            with self.subTest(quarters):
                self.assert_refused(quarters, [])

    def test_with_bridges_that_would_do(self):
        for quarters in (25, SIXTY_FIGURES):
            with self.subTest(quarters):
                self.assert_refused(quarters, [(0, 1), (1, 2)])

    def test_with_bridges_that_would_not_do(self):
        for quarters in (0, -1, -SIXTY_FIGURES):
            with self.subTest(quarters):
                self.assert_refused(quarters, [(0, 1), (1, 1)])


class BridgesRefused(TownCase):
    def test_more_than_sixty(self):
        for count in (61, 62, 120):
            for quarters in (2, 5, 24):
                with self.subTest(count=count, quarters=quarters):
                    self.assert_refused(quarters, good_bridges(quarters, count))

    def test_an_end_that_is_no_quarter(self):
        for quarters in (2, 5, 24):
            ends = (-1, -2, -quarters, -SIXTY_FIGURES, quarters, quarters + 1, 60, SIXTY_FIGURES,
                    SEVENTY_FIGURES)
            for end in ends:
                for bridge in ((end, 1), (1, end), (end, 0), (0, end), (quarters - 1, end)):
                    for bridges in with_bridge_at_each_place(bridge, quarters):
                        with self.subTest(quarters=quarters, bridges=bridges):
                            self.assert_refused(quarters, bridges)

    def test_both_ends_no_quarters(self):
        for bridge in ((-1, 5), (5, 6), (-2, -1), (5, -1)):
            for bridges in with_bridge_at_each_place(bridge, 5):
                with self.subTest(bridges):
                    self.assert_refused(5, bridges)

    def test_both_ends_the_same(self):
        for quarters in (2, 5, 24):
            for end in (0, 1, quarters // 2, quarters - 1):
                for bridges in with_bridge_at_each_place((end, end), quarters):
                    with self.subTest(quarters=quarters, bridges=bridges):
                        self.assert_refused(quarters, bridges)

    def test_both_ends_the_same_and_no_quarter(self):
        for end in (-1, 5, SIXTY_FIGURES):
            for bridges in with_bridge_at_each_place((end, end), 5):
                with self.subTest(bridges):
                    self.assert_refused(5, bridges)

    def test_the_bad_bridge_as_the_only_one(self):
        for bridge in ((0, 5), (5, 0), (-1, 0), (0, -1), (2, 2)):
            with self.subTest(bridge):
                self.assert_refused(5, [bridge])

    def test_the_bad_bridge_as_the_sixtieth(self):
        for bridge in ((0, 5), (-1, 0), (2, 2)):
            with self.subTest(bridge):
                self.assert_refused(5, good_bridges(5, 59) + [bridge])

    def test_any_bridge_of_a_single_quarter(self):
        for bridge in ((0, 0), (0, 1), (1, 0)):
            with self.subTest(bridge):
                self.assert_refused(1, [bridge])


class Taken(TownCase):
    def test_every_number_of_quarters_without_bridges(self):
        for quarters in range(1, 25):
            with self.subTest(quarters):
                self.assert_taken(quarters, [])

    def test_just_sixty_bridges(self):
        for quarters in (2, 5, 24):
            with self.subTest(quarters):
                self.assert_taken(quarters, good_bridges(quarters, 60))

    def test_sixty_bridges_between_the_same_two_quarters(self):
        self.assert_taken(2, [(0, 1)] * 60)
        self.assert_taken(24, [(23, 0)] * 60)

    def test_several_bridges_between_the_same_two_quarters(self):
        self.assert_taken(3, [(0, 1), (1, 0), (0, 1), (1, 2), (1, 0)])

    def test_a_bridge_between_the_first_and_the_last_quarter(self):
        for quarters in (2, 3, 23, 24):
            with self.subTest(quarters):
                self.assert_taken(quarters, [(0, quarters - 1)])
                self.assert_taken(quarters, [(quarters - 1, 0)])

    def test_every_pair_of_quarters(self):
        for one in range(24):
            for other in range(24):
                if one != other:
                    with self.subTest(one=one, other=other):
                        self.assert_taken(24, [(one, other)])

    def test_order_of_bridges_and_of_their_ends_stays(self):
        for make in MADE:
            made = make(4, [(3, 1), (0, 2), (2, 0), (1, 3), (0, 1)])
            self.assertEqual(made.quarters, 4)
            self.assertEqual(pairs_of(made), [(3, 1), (0, 2), (2, 0), (1, 3), (0, 1)])


class NothingIsShared(TownCase):
    def test_a_later_change_of_the_list_does_not_reach_what_was_made(self):
        for make in MADE:
            bridges = [(0, 1), (1, 2)]
            made = make(3, bridges)
            bridges.append((0, 2))
            self.assertEqual(pairs_of(made), [(0, 1), (1, 2)])
            bridges[0] = (2, 1)
            self.assertEqual(pairs_of(made), [(0, 1), (1, 2)])
            bridges.clear()
            self.assertEqual(pairs_of(made), [(0, 1), (1, 2)])

    def test_an_empty_list_is_a_copy_too(self):
        for make in MADE:
            bridges = []
            made = make(3, bridges)
            bridges.append((0, 1))
            self.assertEqual(pairs_of(made), [])

    def test_a_change_of_the_field_does_not_reach_the_list(self):
        for make in MADE:
            bridges = [(0, 1), (1, 2)]
            made = make(3, bridges)
            pairs_of(made).append((0, 2))
            self.assertEqual(bridges, [(0, 1), (1, 2)])

    def test_two_that_are_made_of_one_list_have_each_a_list_of_their_own(self):
        for make in MADE:
            for bridges in ([], [(0, 1), (1, 2)]):
                with self.subTest(make=make.__name__, bridges=bridges):
                    first = make(3, bridges)
                    second = make(3, bridges)
                    self.assertIsNot(pairs_of(first), pairs_of(second))
                    pairs_of(first).append((0, 2))
                    self.assertEqual(pairs_of(second), bridges)
                    self.assertEqual(pairs_of(make(3, bridges)), bridges)

    def test_streets_of_a_towns_bridges_have_a_list_of_their_own(self):
        town = Town(3, [(0, 1), (1, 2)])
        streets = Streets(3, town.bridges)
        streets.streets.append((2, 0))
        self.assertEqual(town.bridges, [(0, 1), (1, 2)])
        town.bridges.clear()
        self.assertEqual(streets.streets, [(0, 1), (1, 2), (2, 0)])

    def test_a_list_that_was_refused_stays_as_it_was(self):
        for bridges in ([(0, 1), (1, 1), (1, 2)], [(2, 1)] * 61, [(0, 1), (0, 3)]):
            with self.subTest(bridges):
                self.assert_refused(3, bridges)

    def test_a_good_town_is_taken_behind_a_refusal(self):
        bridges = [(0, 1), (1, 2)]
        self.assert_refused(2, bridges)
        self.assert_taken(3, bridges)
        self.assert_refused(25, bridges)
        self.assert_taken(24, bridges)
        self.assert_refused(3, bridges + [(1, 1)])
        self.assert_taken(3, bridges)

    def test_what_is_made_between_does_not_change_earlier_ones(self):
        first = [make(3, [(0, 1)]) for make in MADE]
        for make in MADE:
            make(24, [(22, 23)] * 60)
        self.assert_refused(3, [(0, 1)] * 61)
        for made in first:
            self.assertEqual((made.quarters, pairs_of(made)), (3, [(0, 1)]))


if __name__ == "__main__":
    unittest.main()
