"""Points 1 and 3: nothing handed in is changed or kept, and what is told is the asker's own."""

import copy

from bridgecrews.dealings import is_dealing, shows_most
from bridgecrews.errors import CrewError
from bridgecrews.most import most_dealt
from bridgecrews.partings import bridges_between, bridges_within
from bridgecrews.pieces import joins_all, pieces_of, ring_over, way_over
from bridgecrews.towns import Town
from town_help import TownCase, full_town

# A ring of three with a tail, a pair of bridges apart from it, and a quarter alone.
SMALL = Town(7, [(0, 1), (1, 2), (2, 0), (2, 3), (4, 5), (5, 4)])
LARGE = full_town(7, 24, 60)

QUESTIONS = [
    (pieces_of, SMALL, [0, 1, 2, 3]), (pieces_of, SMALL, []), (pieces_of, LARGE, list(range(60))),
    (joins_all, SMALL, [0, 1, 2]), (joins_all, LARGE, list(range(60))),
    (way_over, SMALL, [0, 1, 3], 0, 3), (way_over, SMALL, [0, 1, 3], 2, 2), (way_over, SMALL, [4], 4, 5),
    (way_over, SMALL, [0, 1, 3], 0, 4), (way_over, LARGE, list(range(60)), 0, 23),
    (ring_over, SMALL, [0, 1, 2, 3]), (ring_over, SMALL, [4, 5]), (ring_over, SMALL, [0, 1]),
    (ring_over, LARGE, list(range(60))),
    (bridges_between, SMALL, [[0, 1], [2, 3, 4, 5, 6]]), (bridges_between, SMALL, [[0, 1, 2, 3, 4, 5, 6]]),
    (bridges_between, LARGE, [[quarter] for quarter in range(24)]),
    (bridges_within, SMALL, [0, 1, 2]), (bridges_within, SMALL, [6]), (bridges_within, LARGE, list(range(24))),
    (is_dealing, SMALL, [[0, 1], [2, 3]]), (is_dealing, SMALL, [[0, 1, 2], [3]]), (is_dealing, SMALL, [[1, 0], [9]]),
    (shows_most, SMALL, [[0, 1, 3, 4], [2, 5]], []), (shows_most, SMALL, [[0, 1, 3, 4]], [[0, 1, 2], [4, 5]]),
    (shows_most, SMALL, [[0, 1, 3, 4]], [[4, 5], [2, 1, 0]]),
    (most_dealt, SMALL, 1), (most_dealt, SMALL, 2), (most_dealt, SMALL, 60), (most_dealt, LARGE, 1),
    (most_dealt, LARGE, 2), (most_dealt, LARGE, 3), (most_dealt, LARGE, 60),
]
REFUSED = [
    (pieces_of, SMALL, [1, 0]), (pieces_of, SMALL, [0, 6]), (joins_all, SMALL, [3, 3]), (joins_all, SMALL, [-1]),
    (way_over, SMALL, [2, 1], 0, 1), (way_over, SMALL, [1, 2], 0, 7), (way_over, SMALL, [1, 2], -1, 0),
    (ring_over, SMALL, [2, 1, 0]), (ring_over, SMALL, [6]),
    (bridges_between, SMALL, [[2, 3, 4, 5, 6], [0, 1]]), (bridges_between, SMALL, [[1, 0], [2, 3, 4, 5, 6]]),
    (bridges_between, SMALL, []), (bridges_within, SMALL, [2, 0]), (bridges_within, SMALL, []),
    (bridges_within, SMALL, [0, 7]), (most_dealt, SMALL, 0), (most_dealt, SMALL, 61),
]


def lists_in(value):
    """All lists within a value, itself among them, each as often as it is met."""
    if not isinstance(value, (list, tuple)):
        return []
    found = [value] if isinstance(value, list) else []
    for part in value:
        found += lists_in(part)
    return found


def spoil(value):
    for numbers in lists_in(value):
        numbers.insert(0, 99)
        numbers.append(-99)


class NothingIsChangedOrKept(TownCase):
    def test_what_is_handed_in_stays_as_it_was(self):
        for function, *handed in QUESTIONS:
            with self.subTest(function=function.__name__, handed=handed[1:]):
                self.ask(function, *handed)

    def test_what_is_refused_stays_as_it_was(self):
        for function, *handed in REFUSED:
            with self.subTest(function=function.__name__, handed=handed[1:]):
                with self.assertRaises(CrewError):
                    self.ask(function, *handed)

    def test_the_same_is_told_behind_refusals_and_other_questions(self):
        first = [copy.deepcopy(function(*handed)) for function, *handed in QUESTIONS]
        for function, *handed in REFUSED:
            with self.assertRaises(CrewError):
                function(*handed)
        again = [function(*handed) for function, *handed in reversed(QUESTIONS)]
        self.assertEqual(again[::-1], first)

    def test_the_same_town_made_anew_is_told_the_same(self):
        for function, town, *handed in QUESTIONS:
            anew = Town(town.quarters, town.bridges)
            self.assertEqual(function(town, *handed), function(anew, *copy.deepcopy(handed)))


class WhatIsToldIsTheAskersOwn(TownCase):
    def test_what_was_told_may_be_changed_and_the_same_is_told_again(self):
        for function, town, *handed in QUESTIONS:
            with self.subTest(function=function.__name__, handed=handed):
                told = function(town, *handed)
                kept = copy.deepcopy(told)
                before = (town.quarters, list(town.bridges), copy.deepcopy(handed))
                spoil(told)
                self.assertEqual((town.quarters, town.bridges, handed), before)
                self.assertEqual(function(town, *handed), kept)

    def test_what_was_told_stays_where_what_was_handed_in_is_changed(self):
        for function, town, *handed in QUESTIONS:
            with self.subTest(function=function.__name__, handed=handed):
                own = copy.deepcopy(handed)
                told = function(town, *own)
                kept = copy.deepcopy(told)
                spoil(own)
                self.assertEqual(told, kept)

    def test_no_two_lists_are_one(self):
        answers = [function(*handed) for _ in range(2) for function, *handed in QUESTIONS]
        lists = lists_in(answers)[1:] + lists_in([handed[1:] for _, *handed in QUESTIONS])
        lists += [SMALL.bridges, LARGE.bridges]
        self.assertEqual(len({id(numbers) for numbers in lists}), len(lists))
