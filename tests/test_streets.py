"""Point 72: where one can go over one-way streets. What Streets takes and refuses is tested with towns."""

import itertools

from bridgecrews.streets import Streets, reached_over
from town_help import TownCase, every_list, full_streets, ring_pairs, some_streets

# A ring of three, a street out of it to 3 and one into it from 4, and a quarter alone.
STREETS = Streets(6, [(0, 1), (1, 2), (2, 0), (2, 3), (4, 0)])


def reached_by_spreading(streets, some, one):
    reached = {one}
    for _ in range(streets.quarters):
        reached |= {streets.streets[street][1] for street in some if streets.streets[street][0] in reached}
    return sorted(reached)


class ReachedCase(TownCase):
    def reached(self, streets, some, one):
        told = self.ask(reached_over, streets, some, one)
        self.assert_rising_list(told)
        self.assertIn(one, told)
        self.assertEqual(told, reached_by_spreading(streets, some, one))
        return told

    def reached_over_all(self, streets, one):
        return self.reached(streets, list(range(len(streets.streets))), one)


class Reached(ReachedCase):
    def test_over_all_streets(self):
        told = [self.reached_over_all(STREETS, one) for one in range(6)]
        self.assertEqual(told, [[0, 1, 2, 3], [0, 1, 2, 3], [0, 1, 2, 3], [3], [0, 1, 2, 3, 4], [5]])

    def test_a_street_leads_one_way_alone(self):
        for one, other in ((0, 1), (1, 0)):
            streets = Streets(2, [(one, other)])
            self.assertEqual(self.reached_over_all(streets, one), [0, 1])
            self.assertEqual(self.reached_over_all(streets, other), [other])
        both = Streets(2, [(0, 1), (1, 0)])
        self.assertEqual(self.reached(both, [0], 1), [1])
        self.assertEqual(self.reached(both, [1], 0), [0])
        self.assertEqual(self.reached(both, [0, 1], 1), [0, 1])

    def test_some_of_the_streets(self):
        self.assertEqual(self.reached(STREETS, [0, 1], 0), [0, 1, 2])
        self.assertEqual(self.reached(STREETS, [1, 2], 0), [0])
        self.assertEqual(self.reached(STREETS, [1, 3], 1), [1, 2, 3])
        self.assertEqual(self.reached(STREETS, [0, 3, 4], 4), [0, 1, 4])
        self.assertEqual(self.reached(STREETS, [3], 2), [2, 3])

    def test_no_streets(self):
        for streets in (Streets(1, []), Streets(24, []), STREETS):
            for one in range(streets.quarters):
                self.assertEqual(self.reached(streets, [], one), [one])

    def test_rows_and_rings(self):
        for quarters in (2, 3, 24):
            row = Streets(quarters, list(zip(range(quarters), range(1, quarters))))
            ring = Streets(quarters, ring_pairs(range(quarters)))
            for one in range(quarters):
                self.assertEqual(self.reached_over_all(row, one), list(range(one, quarters)))
                self.assertEqual(self.reached_over_all(ring, one), list(range(quarters)))

    def test_several_streets_between_the_same_two_quarters(self):
        streets = Streets(3, [(0, 1)] * 30 + [(1, 2)] * 30)
        self.assertEqual(self.reached_over_all(streets, 0), [0, 1, 2])
        self.assertEqual(self.reached(streets, [29], 0), [0, 1])
        self.assertEqual(self.reached(streets, [30, 59], 0), [0])

    def test_every_three_streets_of_three_quarters(self):
        for chosen in itertools.product(itertools.permutations(range(3), 2), repeat=3):
            streets = Streets(3, list(chosen))
            for some in every_list(3):
                for one in range(3):
                    self.reached(streets, some, one)

    def test_streets_of_all_sizes(self):
        for seed in range(150):
            streets = some_streets(seed)
            count = len(streets.streets)
            for some in (list(range(count)), list(range(0, count, 2)), list(range(seed % 5, count))):
                for one in range(streets.quarters):
                    self.reached(streets, some, one)

    def test_the_largest_are_answered_soon(self):
        for streets in (full_streets(1, 24, 60), full_streets(1, 2, 60), Streets(24, ring_pairs(range(24)))):
            self.assert_answered_soon(reached_over, streets, list(range(len(streets.streets))), 0)
