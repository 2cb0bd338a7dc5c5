"""Points 1 and 3: nothing handed in is changed or kept, and what is told is the asker's own."""

import copy

from bridgecrews.apart import ways_apart
from bridgecrews.covering import all_by, fewest_crews
from bridgecrews.crowding import crowding_of
from bridgecrews.dealings import is_dealing, shows_most
from bridgecrews.errors import CrewError
from bridgecrews.joining import joining_crews, most_joining
from bridgecrews.most import most_dealt
from bridgecrews.partings import bridges_between, bridges_within
from bridgecrews.pieces import joins_all, pieces_of, ring_over, way_over
from bridgecrews.streets import Streets, reached_over
from bridgecrews.strength import strength_of
from bridgecrews.towns import Town
from bridgecrews.wages import cheapest_joining, dearest_dealing, level_shows
from town_help import TownCase, full_pairs, full_streets, full_town, planted_town

# A ring of three with a tail, a pair of bridges apart from it, and a quarter alone.
SMALL = Town(7, [(0, 1), (1, 2), (2, 0), (2, 3), (4, 5), (5, 4)])
LARGE = full_town(7, 24, 60)
PLANTED = planted_town(3, 3)
# Three rows of bridges side by side, a full town, two pieces, one quarter, and the most bridges between two quarters.
THREE_ROWS = Town(3, [(0, 1), (2, 1)] * 3)
FULL = Town(5, full_pairs(5))
PIECES = Town(6, [(0, 1), (1, 2), (2, 0), (3, 4), (4, 5), (5, 3)] * 2)
ALONE = Town(1, [])
SIXTY = Town(2, [(0, 1)] * 60)
# Three pairs apart, whose huddles stay from level to level.
PAIRS = Town(6, [(0, 1), (1, 0), (2, 3), (3, 2), (4, 5), (5, 4)])
RING = Streets(4, [(0, 1), (1, 2), (2, 3), (3, 0), (0, 2), (2, 0)])
WIDE = full_streets(9, 24, 60)
DENSE = full_streets(9, 5, 60)

QUESTIONS = [
    (pieces_of, SMALL, [0, 1, 2, 3]), (pieces_of, SMALL, []), (pieces_of, LARGE, list(range(60))),
    (joins_all, SMALL, [0, 1, 2]), (joins_all, LARGE, list(range(60))),
    (way_over, SMALL, [0, 1, 3], 0, 3), (way_over, SMALL, [0, 1, 3], 2, 2), (way_over, SMALL, [4], 4, 5),
    (way_over, SMALL, [0, 1, 3], 0, 4), (way_over, LARGE, list(range(60)), 0, 23),
    (ring_over, SMALL, [0, 1, 2, 3]), (ring_over, SMALL, [4, 5]), (ring_over, SMALL, [0, 1]),
    (ring_over, LARGE, list(range(60))),
    (bridges_between, SMALL, [[0, 1], [2, 3, 4, 5, 6]]), (bridges_between, SMALL, [[0, 1, 2, 3, 4, 5, 6]]),
    (bridges_between, LARGE, [[quarter] for quarter in range(24)]),
    (bridges_within, SMALL, [0, 1, 2]), (bridges_within, SMALL, [6]), (bridges_within, LARGE, list(range(24))),
    (is_dealing, SMALL, [[0, 1], [2, 3]]), (is_dealing, SMALL, [[0, 1, 2], [3]]), (is_dealing, SMALL, [[1, 0], [9]]),
    (shows_most, SMALL, [[0, 1, 3, 4], [2, 5]], []), (shows_most, SMALL, [[0, 1, 3, 4]], [[0, 1, 2], [4, 5]]),
    (shows_most, SMALL, [[0, 1, 3, 4]], [[4, 5], [2, 1, 0]]),
    (most_dealt, SMALL, 1), (most_dealt, SMALL, 2), (most_dealt, SMALL, 60), (most_dealt, LARGE, 1),
    (most_dealt, LARGE, 2), (most_dealt, LARGE, 3), (most_dealt, LARGE, 60),
    (joining_crews, ALONE, 3), (joining_crews, SMALL, 1), (joining_crews, THREE_ROWS, 3),
    (joining_crews, THREE_ROWS, 4), (joining_crews, PLANTED, 3), (joining_crews, PLANTED, 60),
    (joining_crews, LARGE, 2),
    (most_joining, SMALL), (most_joining, THREE_ROWS), (most_joining, PLANTED), (most_joining, LARGE),
    (most_joining, SIXTY),
    (all_by, ALONE, 2), (all_by, SMALL, 1), (all_by, SMALL, 2), (all_by, THREE_ROWS, 60), (all_by, LARGE, 2),
    (all_by, LARGE, 60),
    (fewest_crews, ALONE), (fewest_crews, SMALL), (fewest_crews, PLANTED), (fewest_crews, LARGE), (fewest_crews, SIXTY),
    (strength_of, THREE_ROWS), (strength_of, FULL), (strength_of, PIECES),
    (crowding_of, THREE_ROWS), (crowding_of, FULL), (crowding_of, PIECES), (crowding_of, ALONE),
    (level_shows, SMALL, [0, 1, 3], [[0, 1, 3, 4]], []), (level_shows, SMALL, [0, 1, 2], [[0, 1]], [[0, 1, 2]]),
    (level_shows, SMALL, [0, 1, 2], [[1, 0]], [[2, 1]]),
    (dearest_dealing, ALONE, 2, []), (dearest_dealing, PAIRS, 1, [9, 9, 7, 7, 5, 5]),
    (dearest_dealing, SMALL, 2, [1, 0, 2, 0, 1, 1]), (dearest_dealing, LARGE, 2, list(range(60))),
    (dearest_dealing, LARGE, 1, [bridge % 4 for bridge in range(60)]), (dearest_dealing, SIXTY, 60, [10 ** 60] * 60),
    (cheapest_joining, ALONE, 3, []), (cheapest_joining, SMALL, 1, [1, 2, 3, 4, 5, 6]),
    (cheapest_joining, THREE_ROWS, 2, [3, 1, 2, 2, 1, 3]), (cheapest_joining, THREE_ROWS, 4, [0] * 6),
    (cheapest_joining, PLANTED, 3, list(range(len(PLANTED.bridges)))), (cheapest_joining, SIXTY, 7, list(range(60))),
    (reached_over, RING, [0, 1, 3], 0), (reached_over, RING, [], 2), (reached_over, WIDE, list(range(60)), 5),
    (ways_apart, RING, 0, 2), (ways_apart, RING, 1, 3), (ways_apart, WIDE, 0, 23), (ways_apart, DENSE, 0, 4),
    (ways_apart, DENSE, 3, 1), (ways_apart, Streets(2, []), 0, 1),
]
REFUSED = [
    (pieces_of, SMALL, [1, 0]), (pieces_of, SMALL, [0, 6]), (joins_all, SMALL, [3, 3]), (joins_all, SMALL, [-1]),
    (way_over, SMALL, [2, 1], 0, 1), (way_over, SMALL, [1, 2], 0, 7), (way_over, SMALL, [1, 2], -1, 0),
    (ring_over, SMALL, [2, 1, 0]), (ring_over, SMALL, [6]),
    (bridges_between, SMALL, [[2, 3, 4, 5, 6], [0, 1]]), (bridges_between, SMALL, [[1, 0], [2, 3, 4, 5, 6]]),
    (bridges_between, SMALL, []), (bridges_within, SMALL, [2, 0]), (bridges_within, SMALL, []),
    (bridges_within, SMALL, [0, 7]), (most_dealt, SMALL, 0), (most_dealt, SMALL, 61),
    (joining_crews, SMALL, 0), (joining_crews, LARGE, 61), (most_joining, ALONE), (all_by, SMALL, 0),
    (all_by, LARGE, 61),
    (strength_of, ALONE), (strength_of, LARGE), (strength_of, SMALL), (crowding_of, LARGE), (crowding_of, SMALL),
    (level_shows, SMALL, [1, 0], [[0, 1]], [[0, 1, 2]]), (level_shows, SMALL, [6], [[1, 0]], [[1]]),
    (dearest_dealing, SMALL, 1, [1, 2, 3, 4, 5]), (dearest_dealing, SMALL, 1, [1, 2, 3, 4, 5, -1]),
    (dearest_dealing, SMALL, 0, [1, 2, 3, 4, 5, 6]), (cheapest_joining, SMALL, 1, [1, 2, 3, 4, 5, 6, 7]),
    (cheapest_joining, SMALL, 1, [10 ** 60 + 1, 2, 3, 4, 5, 6]), (cheapest_joining, SMALL, 61, [1, 2, 3, 4, 5, 6]),
    (reached_over, RING, [1, 0], 0), (reached_over, RING, [6], 0), (reached_over, RING, [0, 1], 4),
    (ways_apart, RING, 2, 2), (ways_apart, RING, 0, 4), (ways_apart, RING, -1, 0),
]


def made_anew(town):
    return Streets(town.quarters, town.streets) if isinstance(town, Streets) else Town(town.quarters, town.bridges)


def lists_in(value):
    """All lists within a value, itself among them, each as often as it is met."""
    if not isinstance(value, (list, tuple)):
        return []
    found = [value] if isinstance(value, list) else []
    for part in value:
        found += lists_in(part)
    return found


def spoil(value):
    for numbers in lists_in(value):
        numbers.insert(0, 99)
        numbers.append(-99)


class NothingIsChangedOrKept(TownCase):
    def test_what_is_handed_in_stays_as_it_was(self):
        for function, *handed in QUESTIONS:
            with self.subTest(function=function.__name__, handed=handed[1:]):
                self.ask(function, *handed)

    def test_what_is_refused_stays_as_it_was(self):
        for function, *handed in REFUSED:
            with self.subTest(function=function.__name__, handed=handed[1:]):
                with self.assertRaises(CrewError):
                    self.ask(function, *handed)

    def test_the_same_is_told_behind_refusals_and_other_questions(self):
        first = [copy.deepcopy(function(*handed)) for function, *handed in QUESTIONS]
        for function, *handed in REFUSED:
            with self.assertRaises(CrewError):
                function(*handed)
        again = [function(*handed) for function, *handed in reversed(QUESTIONS)]
        self.assertEqual(again[::-1], first)

    def test_the_same_town_made_anew_is_told_the_same(self):
        for function, town, *handed in QUESTIONS:
            self.assertEqual(function(town, *handed), function(made_anew(town), *copy.deepcopy(handed)))


class WhatIsToldIsTheAskersOwn(TownCase):
    def test_what_was_told_may_be_changed_and_the_same_is_told_again(self):
        for function, town, *handed in QUESTIONS:
            with self.subTest(function=function.__name__, handed=handed):
                told = function(town, *handed)
                kept = copy.deepcopy(told)
                before = copy.deepcopy((vars(town), handed))
                spoil(told)
                self.assertEqual((vars(town), handed), before)
                self.assertEqual(function(town, *handed), kept)

    def test_what_was_told_stays_where_what_was_handed_in_is_changed(self):
        for function, town, *handed in QUESTIONS:
            with self.subTest(function=function.__name__, handed=handed):
                own = copy.deepcopy(handed)
                told = function(town, *own)
                kept = copy.deepcopy(told)
                spoil(own)
                self.assertEqual(told, kept)

    def test_no_two_lists_are_one(self):
        answers = [function(*handed) for _ in range(2) for function, *handed in QUESTIONS]
        lists = lists_in(answers)[1:] + lists_in([handed[1:] for _, *handed in QUESTIONS])
        lists += [town.bridges for town in (SMALL, LARGE, PLANTED, THREE_ROWS, FULL, PIECES, ALONE, SIXTY, PAIRS)]
        lists += [streets.streets for streets in (RING, WIDE, DENSE)]
        self.assertEqual(len({id(numbers) for numbers in lists}), len(lists))
