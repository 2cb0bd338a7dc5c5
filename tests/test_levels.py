"""Point 64: whether huddles show that no dealing to as many crews takes more of some bridges."""

from bridgecrews.dealings import shows_most
from bridgecrews.errors import BadSome
from bridgecrews.towns import Town
from bridgecrews.wages import level_shows
from town_help import (
    FAR_NUMBERS, TownCase, closes_ring, every_huddles, every_list, every_town, full_town, most_by_huddles,
)

# A triangle with one side twice (0 to 3), a tail (4), and a pair of bridges apart from it (5 and 6).
TOWN = Town(6, [(0, 1), (1, 2), (2, 0), (1, 0), (2, 3), (4, 5), (5, 4)])
EVERY = [0, 1, 2, 3, 4, 5, 6]


class LevelCase(TownCase):
    def assert_told(self, told, some, dealing, *huddle_lists, town=TOWN):
        for huddles in huddle_lists:
            with self.subTest(some=some, dealing=dealing, huddles=huddles):
                self.assertIs(self.ask(level_shows, town, some, dealing, huddles), told)


class CountedOut(LevelCase):
    def test_all_bridges(self):
        self.assert_told(True, EVERY, [[0, 1, 4, 5]], [[0, 1, 2], [4, 5]], [[0, 1, 2, 3], [4, 5]])
        self.assert_told(False, EVERY, [[0, 1, 4, 5]], [], [[0, 1, 2]], [[4, 5]], [[0, 1, 2, 3, 4, 5]])

    def test_one_bridge_more_or_fewer_in_some(self):
        # Both of 0 and 4 are dealt; 3 lies beside 0, and 5 is dealt while 6 is not.
        dealing = [[0, 1, 4, 5]]
        self.assert_told(True, [0, 4], dealing, [], [[0, 1]], [[2, 3]])
        self.assert_told(False, [0, 3, 4], dealing, [])
        self.assert_told(True, [0, 3, 4], dealing, [[0, 1]])
        self.assert_told(True, [0, 1, 2, 4], dealing, [[0, 1, 2]])
        self.assert_told(False, [0, 2, 4], dealing, [], [[0, 1, 2]])
        self.assert_told(True, [0, 1, 4, 5], dealing, [], [[4, 5]])
        self.assert_told(False, [0, 1, 4, 5, 6], dealing, [])
        self.assert_told(True, [0, 1, 4, 5, 6], dealing, [[4, 5]])
        self.assert_told(False, [0, 1, 4], dealing, [[4, 5]])

    def test_one_bridge_more_or_fewer_in_the_dealing(self):
        self.assert_told(True, [0, 1, 2, 3], [[0, 1], [2, 3]], [], [[0, 1, 2]])
        self.assert_told(False, [0, 1, 2, 3], [[0, 1], [2]], [], [[0, 1, 2]])
        self.assert_told(False, [0, 1, 2, 3], [[0, 1], []], [], [[0, 1, 2]])
        self.assert_told(True, [0, 1, 2, 3], [[0, 1]], [[0, 1, 2]])
        self.assert_told(False, [0, 1, 2, 3], [[0]], [[0, 1, 2]])

    def test_bridges_that_are_dealt_but_not_among_some_do_not_count(self):
        self.assert_told(True, [0, 1], [[0, 1, 4, 5]], [])
        self.assert_told(True, [], [[0, 1, 4, 5]], [])
        self.assert_told(False, [2, 3], [[0, 1, 4, 5]], [])
        self.assert_told(False, [6], [[0, 1, 4, 5]], [], [[4, 5]])

    def test_bridges_in_a_huddle_that_are_not_among_some_do_not_count(self):
        self.assert_told(True, [0], [[0]], [[0, 1]])
        self.assert_told(False, [4], [[0, 4]], [[0, 1]])
        self.assert_told(True, [4], [[0, 4]], [], [[2, 3]])

    def test_one_huddle_more_or_fewer(self):
        dealing = [[0, 1, 4, 5]]
        self.assert_told(True, EVERY, dealing, [[0, 1, 2], [4, 5]])
        self.assert_told(False, EVERY, dealing, [[0, 1, 2]], [[4, 5]], [[0, 1, 2], [3, 4]], [[0, 1], [4, 5]])
        self.assert_told(True, [0, 1], dealing, [], [[0, 1, 2]])
        self.assert_told(False, [0, 1], dealing, [[0, 1, 2, 3]], [[0, 1, 2], [4, 5]])

    def test_no_bridges(self):
        self.assert_told(True, [], [], [], [[0, 1]], [[0, 1, 2, 3, 4, 5]])
        self.assert_told(True, [], [[]], [])
        self.assert_told(False, [], [[]], [[0, 1]])
        for town in (Town(1, []), Town(24, [])):
            for dealing in ([], [[]], [[], [], []]):
                self.assert_told(True, [], dealing, [], town=town)

    def test_no_crews(self):
        self.assert_told(True, EVERY, [], [[0, 1, 2, 3], [4, 5]], [[0, 1, 2, 3, 4, 5]])
        self.assert_told(False, EVERY, [], [], [[0, 1, 2], [4, 5]])
        self.assert_told(True, [0, 3], [], [[0, 1]], [[0, 1], [4, 5]])

    def test_crews_are_as_many_as_the_dealing_has_lists(self):
        self.assert_told(True, [5, 6], [[5], [6]], [[4, 5]])
        self.assert_told(False, [5, 6], [[5], [6], []], [[4, 5]])
        self.assert_told(True, [5, 6], [[5], [6], []], [])

    def test_every_list_of_small_towns(self):
        dealings = ([], [[]], [[0]], [[2], [1]], [[0, 1]], [[0, 1], [2]], [[0, 1, 2]])
        for town in every_town(4, 3):
            for dealing in dealings:
                if not any(closes_ring(town, own) for own in dealing):
                    for some in every_list(3):
                        taken = len(set(sum(dealing, [])) & set(some))
                        for huddles in every_huddles(4):
                            right = taken == most_by_huddles(town, len(dealing), huddles, some)
                            self.assertIs(level_shows(town, some, dealing, huddles), right,
                                          (town.bridges, some, dealing, huddles))

    def test_all_bridges_are_as_shows_most_tells(self):
        for dealing in ([], [[0, 1, 4, 5]], [[0, 1, 4, 5], [2, 3, 6]], [[0, 1, 2]], [[1, 4, 6]]):
            for huddles in every_huddles(6):
                self.assertIs(level_shows(TOWN, EVERY, dealing, huddles), shows_most(TOWN, dealing, huddles))

    def test_the_largest_are_answered_soon(self):
        town = full_town(5, 24, 60)
        dealing = [[bridge] for bridge in range(60)]
        huddles = [[one, one + 1] for one in range(0, 24, 2)]
        self.assert_answered_soon(level_shows, town, list(range(60)), dealing, huddles)
        self.assertIs(level_shows(town, list(range(60)), dealing, []), True)


class NoDealingOrNoHuddles(LevelCase):
    def test_the_dealing_is_none(self):
        # But for the wrong dealing, the count would fit.
        for dealing in ([[1, 0]], [[0, 1], [1]], [[0, 0, 1]], [[0, 1], [5, 6]], [[0, 1, 7]], [[-1, 0, 1]],
                        [[0, 1], [60]], [[0, 1], [9, 8]]):
            self.assert_told(False, [0, 1], dealing, [])
        self.assert_told(False, [0, 1, 2], [[0, 1, 2]], [])
        for wrong in FAR_NUMBERS:
            self.assert_told(False, [0, 1], [[0, 1], [wrong]], [])
            self.assert_told(False, [], [[wrong]], [])

    def test_the_huddles_are_none(self):
        dealing = [[0, 1, 4, 5]]
        self.assert_told(False, [0, 1, 4, 5], dealing, [[0]], [[]], [[1, 0]], [[4, 5], [0, 1]], [[0, 0]], [[5, 6]],
                         [[-1, 0]], [[0, 1], [1, 2]], [[0, 1], [0, 1]], [[0, 1], [2]], [[0, 1], []])
        self.assert_told(True, [0, 1, 4, 5], dealing, [[0, 1], [4, 5]])
        for wrong in FAR_NUMBERS:
            self.assert_told(False, [0, 1, 4, 5], dealing, [sorted([0, wrong])], [[0, 1], [wrong, wrong + 1]])

    def test_both_are_none(self):
        self.assert_told(False, [], [[1, 0]], [[0]], [[1, 0]], [[]])

    def test_bad_some_goes_ahead_of_all_else(self):
        for some in ([-1], [7], [0, 7], [1, 0], [0, 0], [0, 1, 1], [-1, 0, 1]) + tuple([far] for far in FAR_NUMBERS):
            for dealing in ([], [[0, 1]], [[1, 0]], [[0], [0]], [[-1]], [[0, 1, 2]]):
                for huddles in ([], [[0, 1]], [[0]], [[1, 0]], [[0, 9]]):
                    with self.subTest(some=some, dealing=dealing, huddles=huddles):
                        self.assert_refused(BadSome, level_shows, TOWN, some, dealing, huddles)
