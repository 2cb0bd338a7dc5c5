"""Point 73: ways apart over one-way streets, and the quarters that show that there are no more."""

import itertools

from bridgecrews.apart import ways_apart
from bridgecrews.errors import BadQuarters
from bridgecrews.streets import Streets
from town_help import FAR_NUMBERS, TownCase, every_list, full_streets, ring_pairs, some_streets


def leading_out(streets, quarters):
    return [street for street in streets.streets if street[0] in quarters and street[1] not in quarters]


def fewest_by_trying(streets, one, other):
    """The fewest streets that lead out of any quarters with the one and without the other."""
    lists = [quarters for quarters in every_list(streets.quarters) if one in quarters and other not in quarters]
    return min(len(leading_out(streets, quarters)) for quarters in lists)


class ApartCase(TownCase):
    def assert_is_way(self, streets, one, other, way):
        self.assertIs(type(way), list)
        met = [one]
        for street in way:
            self.assertIs(type(street), int)
            self.assertIn(street, range(len(streets.streets)))
            start, end = streets.streets[street]
            self.assertEqual(start, met[-1])
            met.append(end)
        self.assertEqual(met[-1], other)
        self.assertEqual(len(set(met)), len(met))

    def apart(self, streets, one, other):
        """The count, seen to be right by walking the ways and counting the streets that lead out."""
        told = self.ask(ways_apart, streets, one, other)
        self.assertIs(type(told), tuple)
        count, ways, quarters = told
        self.assertIs(type(count), int)
        self.assertIs(type(ways), list)
        self.assertEqual(len(ways), count)
        for way in ways:
            self.assert_is_way(streets, one, other, way)
        self.assertEqual(ways, sorted(ways))
        together = sum(ways, [])
        self.assertEqual(len(set(together)), len(together))
        self.assert_rising_list(quarters)
        self.assertTrue(set(quarters) <= set(range(streets.quarters)))
        self.assertIn(one, quarters)
        self.assertNotIn(other, quarters)
        self.assertEqual(len(leading_out(streets, quarters)), count)
        return count


class Edges(ApartCase):
    def test_no_streets(self):
        for quarters in (2, 3, 24):
            for one, other in ((0, quarters - 1), (quarters - 1, 0)):
                self.assertEqual(self.apart(Streets(quarters, []), one, other), 0)
                self.assertEqual(ways_apart(Streets(quarters, []), one, other)[:2], (0, []))

    def test_a_street_leads_one_way_alone(self):
        for one, other in ((0, 1), (1, 0)):
            streets = Streets(2, [(one, other)])
            self.assertEqual(self.ask(ways_apart, streets, one, other), (1, [[0]], [one]))
            self.assertEqual(self.ask(ways_apart, streets, other, one), (0, [], [other]))

    def test_several_streets_between_the_same_two_quarters(self):
        for count in (1, 2, 3, 59, 60):
            streets = Streets(2, [(1, 0)] * count)
            self.assertEqual(self.ask(ways_apart, streets, 1, 0), (count, [[street] for street in range(count)], [1]))
            self.assertEqual(self.apart(streets, 0, 1), 0)
        mixed = Streets(2, [(0, 1), (1, 0), (0, 1), (1, 0), (0, 1)])
        self.assertEqual(self.ask(ways_apart, mixed, 0, 1), (3, [[0], [2], [4]], [0]))
        self.assertEqual(self.ask(ways_apart, mixed, 1, 0), (2, [[1], [3]], [1]))

    def test_a_narrow_place(self):
        # Three streets lead to it and three lead on from it, but the ways share one street between.
        streets = Streets(4, [(0, 1), (0, 1), (0, 1), (1, 2), (2, 3), (2, 3), (2, 3)])
        self.assertEqual(self.apart(streets, 0, 3), 1)
        self.assertEqual(self.apart(streets, 0, 1), 3)
        self.assertEqual(self.apart(streets, 2, 3), 3)
        self.assertEqual(self.apart(streets, 3, 0), 0)

    def test_rows_and_rings(self):
        for quarters in (2, 3, 24):
            row = Streets(quarters, list(zip(range(quarters), range(1, quarters))))
            self.assertEqual(self.ask(ways_apart, row, 0, quarters - 1)[:2], (1, [list(range(quarters - 1))]))
            self.assertEqual(self.apart(row, quarters - 1, 0), 0)
            ring = Streets(quarters, ring_pairs(range(quarters)))
            for one, other in itertools.permutations(range(quarters), 2):
                self.assertEqual(self.apart(ring, one, other), 1)

    def test_ways_may_share_a_quarter(self):
        streets = Streets(3, [(0, 1), (0, 1), (1, 2), (1, 2)])
        self.assertEqual(self.apart(streets, 0, 2), 2)

    def test_ways_are_told_in_rising_order(self):
        # The short way over the last streets is found ahead of the long one over the first.
        streets = Streets(4, [(0, 1), (1, 2), (2, 3), (0, 3)])
        self.assertEqual(self.ask(ways_apart, streets, 0, 3), (2, [[0, 1, 2], [3]], [0]))
        streets = Streets(4, [(2, 3), (0, 3), (0, 1), (1, 2)])
        self.assertEqual(self.ask(ways_apart, streets, 0, 3), (2, [[1], [2, 3, 0]], [0]))


class WaysGivenUp(ApartCase):
    def test_a_first_way_is_given_up_for_two_others(self):
        # The shortest way goes by 1 and 2; the only two apart go by 1, 3 and 4, and by 5, 6 and 2.
        pairs = [(0, 1), (1, 2), (2, 7), (1, 3), (3, 4), (4, 7), (0, 5), (5, 6), (6, 2)]
        for order in (pairs, pairs[::-1], pairs[4:] + pairs[:4]):
            streets = Streets(8, order)
            self.assertEqual(self.apart(streets, 0, 7), 2)
            ways = ways_apart(streets, 0, 7)[1]
            self.assertNotIn(order.index((1, 2)), sum(ways, []))

    def test_several_ways_are_given_up_at_once(self):
        # So many short ways side by side, each with a way round ahead and a way round behind.
        for many in (2, 3, 4):
            pairs = []
            for place in range(many):
                first, second, ahead, behind = [2 + 4 * place + step for step in range(4)]
                pairs += [(0, first), (first, second), (second, 1), (first, ahead), (ahead, 1), (0, behind)]
                pairs += [(behind, second)]
            for order in (pairs, pairs[::-1]):
                self.assertEqual(self.apart(Streets(2 + 4 * many, order), 0, 1), 2 * many)

    def test_a_way_is_given_up_through_several_others(self):
        # A ladder: each way that was found first takes a rung that the next one has to take back.
        for rungs in range(1, 7):
            upper = list(range(2, 2 + rungs + 1))
            lower = list(range(3 + rungs, 3 + 2 * rungs + 1))
            pairs = [(0, upper[0]), (0, lower[0])] + list(zip(upper, upper[1:])) + list(zip(lower, lower[1:]))
            pairs += [(one, other) for one, other in zip(upper, lower[1:])] + [(upper[-1], 1), (lower[-1], 1)]
            for order in (pairs, pairs[::-1], sorted(pairs, key=lambda pair: pair[1])):
                self.assertEqual(self.apart(Streets(4 + 2 * rungs, order), 0, 1), 2)


class SmallOnes(ApartCase):
    def assert_as_tried(self, streets):
        for one, other in itertools.permutations(range(streets.quarters), 2):
            self.assertEqual(self.apart(streets, one, other), fewest_by_trying(streets, one, other), streets.streets)

    def test_all_streets_of_three_quarters(self):
        for many in range(5):
            for chosen in itertools.product(itertools.permutations(range(3), 2), repeat=many):
                self.assert_as_tried(Streets(3, list(chosen)))

    def test_streets_of_up_to_seven_quarters(self):
        for seed in range(150):
            self.assert_as_tried(some_streets(seed, 7, 24))

    def test_full_ones(self):
        for seed in range(40):
            self.assert_as_tried(full_streets(seed, 6, 12))
            self.assert_as_tried(full_streets(seed, 5, 40))


class LargeOnes(ApartCase):
    def test_streets_of_all_sizes(self):
        for seed in range(300):
            streets = some_streets(seed)
            for one, other in ((0, 1), (1, 0), (0, streets.quarters - 1), (streets.quarters - 1, 0)):
                if one != other:
                    self.apart(streets, one, other)

    def test_streets_with_rings(self):
        # Each quarter has a street on, one back and one across, so that the streets in use may close rings as well.
        for quarters in (6, 12, 20):
            on = ring_pairs(range(quarters))
            back = [pair[::-1] for pair in on]
            across = [(quarter, (quarter * 5 + 3) % quarters) for quarter in range(quarters)]
            pairs = [pair for pair in on + back + across if pair[0] != pair[1]]
            for order in (pairs, pairs[::-1], sorted(pairs)):
                for other in range(1, quarters):
                    self.apart(Streets(quarters, order), 0, other)

    def test_the_largest_are_answered_soon(self):
        for seed in range(5):
            for quarters in (2, 3, 4, 8, 12, 24):
                self.assert_answered_soon(ways_apart, full_streets(seed, quarters, 60), 0, quarters - 1)
        for many in (2, 30):
            self.assert_answered_soon(ways_apart, Streets(3, [(0, 1), (1, 2)] * many), 0, 2)


class Refused(ApartCase):
    def test_the_same_quarter_twice(self):
        for streets in (Streets(1, []), Streets(3, []), Streets(3, [(0, 1), (1, 2), (2, 0)]), full_streets(1, 24, 60)):
            for quarter in range(streets.quarters):
                self.assert_refused(BadQuarters, ways_apart, streets, quarter, quarter)

    def test_a_place_that_is_no_quarter(self):
        for streets in (Streets(1, []), Streets(3, []), Streets(3, [(0, 1), (1, 2), (2, 0)]), full_streets(1, 24, 60)):
            count = streets.quarters
            for wrong in (-1, -count, -count - 1, count, count + 1, 60) + FAR_NUMBERS:
                for one, other in ((wrong, 0), (0, wrong), (wrong, count - 1), (count - 1, wrong), (wrong, wrong),
                                   (wrong, wrong + 1), (-1, wrong)):
                    with self.subTest(one=one, other=other):
                        self.assert_refused(BadQuarters, ways_apart, streets, one, other)

    def test_each_two_different_quarters_are_taken(self):
        streets = full_streets(2, 24, 60)
        for one, other in itertools.permutations(range(24), 2):
            self.apart(streets, one, other)
