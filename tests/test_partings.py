"""Point 16: partings, the bridges between parts, and the bridges within some quarters."""

import itertools

from bridgecrews.errors import BadParting
from bridgecrews.partings import bridges_between, bridges_within
from bridgecrews.towns import Town
from town_help import FAR_NUMBERS, TownCase, every_grouping, every_list, full_town, some_town, within

TOWN = Town(5, [(0, 1), (3, 1), (4, 2), (1, 0), (2, 3), (0, 4)])


class Between(TownCase):
    def assert_between(self, town, parting, bridges):
        told = self.ask(bridges_between, town, parting)
        self.assert_rising_list(told)
        self.assertEqual(told, bridges)

    def test_one_part_alone(self):
        for town in (TOWN, Town(1, []), Town(3, []), full_town(1, 24, 60)):
            self.assert_between(town, [list(range(town.quarters))], [])

    def test_each_quarter_alone(self):
        for town in (TOWN, Town(1, []), Town(3, []), full_town(1, 24, 60)):
            parting = [[quarter] for quarter in range(town.quarters)]
            self.assert_between(town, parting, list(range(len(town.bridges))))

    def test_parts_of_several(self):
        self.assert_between(TOWN, [[0, 1], [2, 3, 4]], [1, 5])
        self.assert_between(TOWN, [[0, 1, 3], [2, 4]], [4, 5])
        self.assert_between(TOWN, [[0, 4], [1, 3], [2]], [0, 2, 3, 4])
        self.assert_between(TOWN, [[0], [1, 2, 3, 4]], [0, 3, 5])
        self.assert_between(TOWN, [[0, 1, 2, 3], [4]], [2, 5])

    def test_every_parting_of_a_town(self):
        for seed in range(20):
            town = some_town(seed, 6, 15)
            for parting in every_grouping(list(range(town.quarters))):
                part_of = {quarter: part[0] for part in parting for quarter in part}
                bridges = [bridge for bridge, (one, other) in enumerate(town.bridges)
                           if part_of[one] != part_of[other]]
                self.assert_between(town, parting, bridges)


class PartingsRefused(TownCase):
    def assert_no_parting(self, *partings, town=TOWN):
        for parting in partings:
            with self.subTest(parting):
                self.assert_refused(BadParting, bridges_between, town, parting)

    def test_a_quarter_left_out(self):
        self.assert_no_parting([[0, 1], [2, 3]], [[1, 2, 3, 4]], [[0, 1, 3, 4]], [[0], [1], [2], [4]], [[0, 4], [1, 2]])

    def test_a_quarter_twice(self):
        self.assert_no_parting([[0, 1], [1, 2, 3, 4]], [[0, 1, 2, 3, 4], [4]], [[0, 4], [1, 4], [2, 3]],
                               [[0, 1, 2, 3, 4], [0, 1, 2, 3, 4]], [[0, 1, 2], [2, 3]])

    def test_a_quarter_twice_in_one_part(self):
        self.assert_no_parting([[0, 0, 1, 2, 3, 4]], [[0, 1], [2, 3, 4, 4]], [[0, 0], [1, 2, 3, 4]],
                               [[0, 0, 1, 2, 3]])

    def test_a_quarter_that_is_none(self):
        for wrong in (-1, -5, 5, 6, 24) + FAR_NUMBERS:
            self.assert_no_parting([[0, 1, 2, 3, 4], [wrong]], [[wrong], [0, 1, 2, 3, 4]], [[0, 1], [2, 3, wrong]],
                                   [[0, 1], sorted([2, 3, 4, wrong])], [sorted([0, 1, wrong]), [2, 3, 4]],
                                   [sorted([1, 2, 3, 4, wrong])], [sorted([0, 1, 2, 3, wrong])])

    def test_an_empty_part(self):
        self.assert_no_parting([[0, 1, 2, 3, 4], []], [[], [0, 1, 2, 3, 4]], [[0, 1], [], [2, 3, 4]], [[]], [[], []])

    def test_a_part_that_does_not_rise(self):
        self.assert_no_parting([[1, 0], [2, 3, 4]], [[0, 1], [2, 4, 3]], [[4, 3, 2, 1, 0]], [[0, 2, 1, 3, 4]],
                               [[0, 1], [3, 2, 4]])

    def test_parts_in_another_order(self):
        self.assert_no_parting([[2, 3, 4], [0, 1]], [[1, 3], [0, 2, 4]], [[0], [2], [1], [3], [4]],
                               [[0, 3], [2], [1, 4]], [[0, 1], [4], [2, 3]], [[1], [2], [3], [4], [0]])

    def test_no_part_at_all(self):
        for town in (TOWN, Town(1, []), Town(24, [])):
            self.assert_no_parting([], town=town)

    def test_a_town_of_one_quarter(self):
        self.assert_no_parting([[]], [[1]], [[0, 0]], [[0], [0]], [[0], []], [[0, 1]], [[-1]], town=Town(1, []))

    def test_lists_of_lists_that_are_partings_are_taken_and_all_others_refused(self):
        town = Town(3, [(0, 1), (2, 1)])
        partings = list(every_grouping([0, 1, 2]))
        parts = [list(part) for many in range(4) for part in itertools.product(range(-1, 4), repeat=many)]
        for lists in itertools.chain(*[itertools.product(parts, repeat=many) for many in range(3)]):
            parting = [list(part) for part in lists]
            if parting not in partings:
                self.assert_refused(BadParting, bridges_between, town, parting)
            else:
                self.ask(bridges_between, town, parting)


class Within(TownCase):
    def assert_within(self, town, quarters, bridges):
        told = self.ask(bridges_within, town, quarters)
        self.assert_rising_list(told)
        self.assertEqual(told, bridges)

    def test_one_quarter(self):
        for town in (TOWN, Town(1, []), full_town(1, 24, 60)):
            for quarter in range(town.quarters):
                self.assert_within(town, [quarter], [])

    def test_some_quarters(self):
        self.assert_within(TOWN, [0, 1], [0, 3])
        self.assert_within(TOWN, [1, 2], [])
        self.assert_within(TOWN, [0, 1, 3], [0, 1, 3])
        self.assert_within(TOWN, [2, 3, 4], [2, 4])
        self.assert_within(TOWN, [0, 2, 4], [2, 5])

    def test_all_quarters(self):
        for town in (TOWN, Town(3, []), full_town(1, 24, 60)):
            self.assert_within(town, list(range(town.quarters)), list(range(len(town.bridges))))

    def test_every_list_of_quarters_of_a_town(self):
        for seed in range(40):
            town = some_town(seed, 7, 15)
            for quarters in every_list(town.quarters):
                if quarters:
                    self.assert_within(town, quarters, within(town, quarters))
