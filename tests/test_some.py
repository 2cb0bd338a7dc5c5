"""Point 12: which bridges and which quarters are refused, and what goes first."""

from bridgecrews.errors import BadQuarters, BadSome
from bridgecrews.partings import bridges_within
from bridgecrews.pieces import joins_all, pieces_of, ring_over, way_over
from bridgecrews.streets import Streets, reached_over
from bridgecrews.towns import Town
from bridgecrews.wages import level_shows
from town_help import FAR_NUMBERS, SIXTY_FIGURES, TownCase, full_town


def way_there(town, some):
    return way_over(town, some, 0, town.quarters - 1)


def way_to_itself(town, some):
    return way_over(town, some, 0, 0)


def reached(town, some):
    return reached_over(Streets(town.quarters, town.bridges), some, 0)


def shown(town, some):
    return level_shows(town, some, [[0], []] if town.bridges else [[]], [])


def shown_by_none(town, some):
    return level_shows(town, some, [[-1]], [[]])


TAKE_SOME = (pieces_of, joins_all, ring_over, way_there, way_to_itself, reached, shown, shown_by_none)
TOWNS = (Town(4, [(0, 1), (1, 2), (2, 3), (3, 0), (0, 2), (1, 3)]), full_town(12, 24, 60))


def with_number_at_each_place(number, count):
    """A number at the beginning, in the middle, at the end, and alone; the others rise."""
    return [[number], [number] + list(range(1, count)), list(range(count)) + [number],
            list(range(count // 2)) + [number] + list(range(count // 2, count))]


class SomeRefused(TownCase):
    def assert_all_refuse(self, town, some):
        for function in TAKE_SOME:
            with self.subTest(function=function.__name__, some=some):
                self.assert_refused(BadSome, function, town, some)

    def test_numbers_that_are_no_bridges(self):
        for town in TOWNS:
            count = len(town.bridges)
            for number in (-1, -2, -count, -count - 1, count, count + 1, 2 * count) + FAR_NUMBERS:
                for some in with_number_at_each_place(number, count):
                    self.assert_all_refuse(town, some)

    def test_lists_that_rise_but_for_a_number_that_is_no_bridge(self):
        for town in TOWNS:
            count = len(town.bridges)
            for some in ([-1, 0, 1], [-SIXTY_FIGURES, 0, 2], [0, 1, count], [count - 1, count], [0, SIXTY_FIGURES],
                         [-1] + list(range(count)), list(range(count + 1)), [-2, -1], [count, count + 1]):
                self.assert_all_refuse(town, some)

    def test_a_number_twice(self):
        for town in TOWNS:
            count = len(town.bridges)
            for number in (0, 1, count // 2, count - 1):
                self.assert_all_refuse(town, [number, number])
                self.assert_all_refuse(town, sorted(list(range(count)) + [number]))
                self.assert_all_refuse(town, list(range(count)) + [number])

    def test_two_numbers_turned_about(self):
        for town in TOWNS:
            count = len(town.bridges)
            for place in (0, 1, count // 2, count - 2):
                some = list(range(count))
                some[place], some[place + 1] = some[place + 1], some[place]
                self.assert_all_refuse(town, some)
            self.assert_all_refuse(town, [2, 0])
            self.assert_all_refuse(town, [0, 3, 1])
            self.assert_all_refuse(town, [1, 0, 3])

    def test_any_number_where_there_are_no_bridges(self):
        for quarters in (1, 2, 24):
            for number in (0, 1, -1, 60) + FAR_NUMBERS:
                self.assert_all_refuse(Town(quarters, []), [number])

    def test_lists_that_are_taken(self):
        for town in TOWNS + (Town(1, []), Town(24, [])):
            count = len(town.bridges)
            for some in ([], list(range(count)), list(range(0, count, 3)), list(range(count))[-1:]):
                for function in TAKE_SOME:
                    with self.subTest(function=function.__name__, some=some):
                        self.ask(function, town, some)


class QuartersRefused(TownCase):
    def assert_within_refuses(self, town, quarters):
        with self.subTest(quarters=quarters):
            self.assert_refused(BadQuarters, bridges_within, town, quarters)

    def test_the_empty_list(self):
        for town in TOWNS + (Town(1, []),):
            self.assert_within_refuses(town, [])

    def test_numbers_that_are_no_quarters(self):
        for town in TOWNS:
            count = town.quarters
            for number in (-1, -2, -count, -count - 1, count, count + 1, 59) + FAR_NUMBERS:
                for quarters in with_number_at_each_place(number, count):
                    self.assert_within_refuses(town, quarters)

    def test_lists_that_rise_but_for_a_number_that_is_no_quarter(self):
        for town in TOWNS:
            count = town.quarters
            for quarters in ([-1, 0], [0, count], [-SIXTY_FIGURES, 0], [0, SIXTY_FIGURES],
                             [-1] + list(range(count)), list(range(count + 1))):
                self.assert_within_refuses(town, quarters)

    def test_lists_that_do_not_rise(self):
        for town in TOWNS:
            last = town.quarters - 1
            for quarters in ([0, 0], [last, last], [1, 0], [0, 2, 1], [0, 1, 1], [0, 0, 1], [1, 0, 2], [last, 0]):
                self.assert_within_refuses(town, quarters)


class SingleQuartersRefused(TownCase):
    def test_as_the_first_and_as_the_second_one(self):
        for town in TOWNS + (Town(1, []), Town(5, [])):
            count = town.quarters
            for wrong in (-1, -count, count, count + 1, 59) + FAR_NUMBERS:
                for some in ([], list(range(len(town.bridges)))):
                    for one, other in ((wrong, 0), (0, wrong), (wrong, count - 1), (count - 1, wrong),
                                       (wrong, wrong), (wrong, -5)):
                        with self.subTest(one=one, other=other, some=some):
                            self.assert_refused(BadQuarters, way_over, town, some, one, other)

    def test_as_the_one_that_streets_are_gone_from(self):
        for town in TOWNS + (Town(1, []), Town(5, [])):
            streets = Streets(town.quarters, town.bridges)
            for wrong in (-1, -town.quarters, town.quarters, town.quarters + 1, 59) + FAR_NUMBERS:
                for some in ([], list(range(len(streets.streets)))):
                    with self.subTest(wrong=wrong, some=some):
                        self.assert_refused(BadQuarters, reached_over, streets, some, wrong)

    def test_the_last_quarter_is_taken(self):
        for town in TOWNS:
            last = town.quarters - 1
            self.assertEqual(self.ask(way_over, town, [], last, last), [])
            self.assertIsNone(self.ask(way_over, town, [], last, 0))
            self.assertIsNone(self.ask(way_over, town, [], 0, last))


class BothWrong(TownCase):
    def test_bad_some_goes_first(self):
        for town in TOWNS:
            count = len(town.bridges)
            for some in ([-1], [count], [1, 0], [0, 0], [SIXTY_FIGURES]):
                for one, other in ((-1, 0), (0, -1), (town.quarters, 0), (0, town.quarters), (-1, SIXTY_FIGURES)):
                    with self.subTest(some=some, one=one, other=other):
                        self.assert_refused(BadSome, way_over, town, some, one, other)

    def test_bad_some_goes_first_for_streets(self):
        for town in TOWNS + (Town(5, []),):
            streets = Streets(town.quarters, town.bridges)
            for some in ([-1], [len(town.bridges)], [1, 0], [0, 0], [SIXTY_FIGURES]):
                for wrong in (-1, town.quarters, SIXTY_FIGURES):
                    with self.subTest(some=some, wrong=wrong):
                        self.assert_refused(BadSome, reached_over, streets, some, wrong)
