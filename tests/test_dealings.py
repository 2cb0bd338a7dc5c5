"""Points 21 and 22: what a dealing is, what huddles are, and what they show together."""

import itertools

from bridgecrews.dealings import is_dealing, shows_most
from bridgecrews.towns import Town
from town_help import (
    FAR_NUMBERS, TownCase, closes_ring, dealt_count, every_huddles, every_list, every_town, full_town, most_by_huddles,
)

# A triangle with one side twice (0 to 3), a tail (4), and a pair of bridges apart from it (5 and 6).
TOWN = Town(6, [(0, 1), (1, 2), (2, 0), (1, 0), (2, 3), (4, 5), (5, 4)])


class IsDealing(TownCase):
    def assert_told(self, told, *dealings, town=TOWN):
        for dealing in dealings:
            with self.subTest(dealing):
                self.assertIs(self.ask(is_dealing, town, dealing), told)

    def test_no_crews(self):
        for town in (TOWN, Town(1, []), Town(24, []), full_town(1, 24, 60)):
            self.assert_told(True, [], town=town)

    def test_empty_lists(self):
        for town in (TOWN, Town(1, []), full_town(1, 24, 60)):
            self.assert_told(True, [[]], [[], []], [[] for _ in range(60)], town=town)

    def test_dealings(self):
        self.assert_told(True, [[0]], [[6]], [[0, 1, 4, 5], [2, 3, 6]], [[0, 1], [2, 3]], [[], [4], []],
                         [[3], [0], [5], [6]], [[1, 2, 4, 5]], [[5], [6]], [[6], [5]])

    def test_a_bridge_in_two_lists(self):
        self.assert_told(False, [[0], [0]], [[0, 1], [1, 4]], [[0], [1], [0]], [[4, 5], [], [5]], [[6], [6]])

    def test_a_bridge_twice_in_one_list(self):
        self.assert_told(False, [[0, 0]], [[4, 4]], [[0, 4, 4]], [[1], [4, 4]], [[6, 6], []])

    def test_a_list_that_does_not_rise(self):
        self.assert_told(False, [[1, 0]], [[0, 4, 1]], [[0], [5, 4]], [[4, 2], []], [[], [6, 0]])

    def test_a_number_that_is_no_bridge(self):
        for wrong in (-1, -2, -7, -8, 7, 8, 60) + FAR_NUMBERS:
            self.assert_told(False, [[wrong]], [[0], [wrong]], [sorted([0, wrong])], [[], sorted([4, 5, wrong])],
                             [sorted([1, wrong]), [0]])
        self.assert_told(False, [[0]], [[], [0]], [[-1]], town=Town(3, []))

    def test_bridges_that_close_a_ring(self):
        self.assert_told(False, [[0, 3]], [[0, 1, 2]], [[1, 2, 3]], [[0], [1, 2, 3]], [[5, 6]], [[0, 1, 4, 5, 6], []],
                         [[0, 1], [5, 6]])

    def test_a_ring_over_the_bridges_of_two_crews_is_none(self):
        self.assert_told(True, [[0], [3]], [[0, 1], [2]], [[0], [1], [2]], [[5], [6]])

    def test_every_list_of_lists_for_small_towns(self):
        rows = [list(row) for many in range(4) for row in itertools.product(range(-1, 4), repeat=many)]
        for town in (Town(3, [(0, 1), (1, 2), (0, 2)]), Town(3, [(0, 1), (1, 0), (1, 2)])):
            good = [row for row in every_list(3) if not closes_ring(town, row)]
            for pair in itertools.product(rows, repeat=2):
                dealing = [list(row) for row in pair]
                right = dealing[0] in good and dealing[1] in good and not set(dealing[0]) & set(dealing[1])
                self.assertIs(self.ask(is_dealing, town, dealing), right, dealing)


class ShowsMost(TownCase):
    def assert_told(self, told, dealing, *huddle_lists, town=TOWN):
        for huddles in huddle_lists:
            with self.subTest(dealing=dealing, huddles=huddles):
                self.assertIs(self.ask(shows_most, town, dealing, huddles), told)

    def test_the_same_dealing_with_different_huddles(self):
        # Each crew takes but two bridges of the triangle and one of the pair.
        self.assert_told(True, [[0, 1, 4, 5]], [[0, 1, 2], [4, 5]], [[0, 1, 2, 3], [4, 5]])
        self.assert_told(False, [[0, 1, 4, 5]], [], [[0, 1, 2]], [[4, 5]], [[0, 1], [4, 5]], [[0, 1, 2, 3, 4, 5]],
                         [[0, 1, 2], [3, 4]], [[0, 1, 2, 4, 5]], [[1, 2], [4, 5]])

    def test_no_huddles(self):
        self.assert_told(True, [[0, 1, 4, 5], [2, 3, 6]], [])
        self.assert_told(False, [[0, 1, 4, 5], [2, 3]], [])
        self.assert_told(False, [[0, 1, 4, 5], [3, 6]], [])
        for town in (Town(1, []), Town(24, [])):
            for dealing in ([], [[]], [[], [], []]):
                self.assert_told(True, dealing, [], town=town)

    def test_no_crews(self):
        self.assert_told(True, [], [[0, 1, 2, 3], [4, 5]], [[0, 1, 2, 3, 4, 5]])
        self.assert_told(False, [], [], [[0, 1, 2], [4, 5]], [[0, 1, 2, 3]])

    def test_the_crews_count_even_where_they_have_nothing(self):
        self.assert_told(False, [[0, 1, 4, 5], []], [[0, 1, 2], [4, 5]], [])
        self.assert_told(True, [[0, 1, 4, 5], [2, 3, 6]], [[4, 5]], [[0, 1, 2]], [[0, 1, 2], [4, 5]])
        self.assert_told(False, [[0, 1, 4, 5], [2, 3, 6]], [[0, 1, 2, 3]], [[0, 2]], [[2, 3]])

    def test_a_huddle_of_one_quarter_or_none(self):
        self.assert_told(False, [[0, 1, 4, 5]], [[0, 1, 2], [3], [4, 5]], [[0, 1, 2], [], [4, 5]],
                         [[0, 1, 2], [4, 5], []], [[], [0, 1, 2], [4, 5]])
        self.assert_told(False, [[0, 1, 4, 5], [2, 3, 6]], [[0]], [[]], [[5]], [[3]])

    def test_a_quarter_in_two_huddles(self):
        # But for the quarter that is in two of them, the count would fit the dealing.
        self.assert_told(False, [[0, 1, 4, 5]], [[0, 1, 2], [2, 3], [4, 5]])
        self.assert_told(False, [[0, 1, 4, 5], [2, 3, 6]], [[4, 5], [4, 5]])
        chain = Town(3, [(0, 1), (1, 2)])
        self.assert_told(False, [[0, 1]], [[0, 1], [1, 2]], [[0, 1, 2], [1, 2]], town=chain)

    def test_a_quarter_twice_in_one_huddle(self):
        self.assert_told(False, [[0, 1, 4, 5]], [[0, 1, 2], [4, 4, 5]], [[0, 0, 1, 2], [4, 5]], [[0, 1, 2], [4, 5, 5]])
        self.assert_told(False, [], [[0, 0, 1, 2, 3, 4, 5]])

    def test_a_huddle_that_does_not_rise(self):
        self.assert_told(False, [[0, 1, 4, 5]], [[0, 1, 2], [5, 4]], [[0, 2, 1], [4, 5]], [[1, 0, 2], [4, 5]])

    def test_huddles_in_another_order(self):
        self.assert_told(False, [[0, 1, 4, 5]], [[4, 5], [0, 1, 2]], [[4, 5], [0, 1, 2, 3]])

    def test_a_quarter_that_is_none(self):
        for wrong in (-1, -6, 6, 7, 24) + FAR_NUMBERS:
            self.assert_told(False, [[0, 1, 4, 5]], [sorted([0, 1, 2, wrong]), [4, 5]],
                             [[0, 1, 2], sorted([4, 5, wrong])], [[0, 1, 2], [4, 5], [wrong, wrong + 1]],
                             [[wrong, wrong + 1], [0, 1, 2], [4, 5]])
            self.assert_told(False, [], [sorted([0, 1, 2, 3, 4, 5, wrong])])

    def test_the_first_is_no_dealing(self):
        for dealing in ([[0, 1, 5, 4]], [[0, 1, 2, 5]], [[0, 1, 5, 6]], [[0, 1, 1, 5]], [[-1, 0, 1, 5]], [[0, 1, 5, 7]],
                        [[0, 3, 4, 5]]):
            self.assert_told(False, dealing, [[0, 1, 2], [4, 5]])
        self.assert_told(False, [[0, 1, 4, 5], [2, 3, 4]], [])
        self.assert_told(False, [[0, 1, 2, 3, 4, 5, 6]], [])
        self.assert_told(False, [[0], [0]], [], town=Town(2, [(0, 1), (0, 1)]))

    def test_both_are_wrong(self):
        self.assert_told(False, [[1, 0]], [[0]], [[1, 0]], [[-1, 0]], [[]])

    def test_every_huddles_of_small_towns(self):
        for town in every_town(4, 4):
            for dealing in ([], [[0]], [[0, 1]], [[0, 1, 2]], [[0, 1], [2, 3]], [[0, 2], [3]], [[0, 1, 2], [3]]):
                if not any(closes_ring(town, own) for own in dealing):
                    for huddles in every_huddles(4):
                        right = dealt_count(dealing) == most_by_huddles(town, len(dealing), huddles)
                        self.assertIs(shows_most(town, dealing, huddles), right, (town.bridges, dealing, huddles))
