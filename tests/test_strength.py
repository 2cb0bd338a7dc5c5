"""Points 51 and 53: how strong a town is, with the parting and the counted joinings that show it."""

from fractions import Fraction

from bridgecrews.errors import TooLarge, TooSmall
from bridgecrews.strength import strength_of
from bridgecrews.towns import Town
from town_help import (
    COUNTABLE_TOWNS, TOO_LARGE_TOWNS, CountedCase, between, every_grouping, every_town, full_pairs, full_town,
    joinings_by_trying, pieces_by_spreading, ring_pairs, some_town,
)


def share_between(town, parting):
    return Fraction(len(between(town, parting)), len(parting) - 1)


def strength_by_trying(town):
    partings = [parting for parting in every_grouping(list(range(town.quarters))) if len(parting) > 1]
    return min(share_between(town, parting) for parting in partings)


class StrengthCase(CountedCase):
    def strength(self, town):
        """The strength; all that is told is seen to be right by walking and counting."""
        told = self.ask(strength_of, town)
        self.assertIs(type(told), tuple)
        strength, parting, counted = told
        self.assert_is_fraction(strength)
        self.assert_is_parting(town, parting)
        self.assertGreater(len(parting), 1)
        self.assertEqual(share_between(town, parting), Fraction(*strength))
        uses = self.counted_uses(town, strength[0], counted)
        for bridges, _ in counted:
            self.assert_is_joining(town, bridges)
        for bridge in range(len(town.bridges)):
            self.assertLessEqual(uses[bridge], strength[1])
        return strength


class Edges(StrengthCase):
    def test_a_strength_of_nought(self):
        for town in (Town(2, []), Town(6, []), Town(3, [(0, 2)] * 12), Town(6, ring_pairs([0, 2, 4]) * 4),
                     Town(4, [(0, 1), (3, 2)]), Town(6, full_pairs(5))):
            self.assertEqual(self.strength(town), (0, 1))
            self.assertEqual(self.ask(strength_of, town)[2], [])

    def test_a_joining_and_no_more(self):
        for town in (Town(2, [(1, 0)]), Town(3, [(2, 1), (0, 2)]), Town(6, [(0, quarter) for quarter in range(1, 6)])):
            self.assertEqual(self.strength(town), (1, 1))
            self.assertEqual(self.ask(strength_of, town)[2], [(list(range(town.quarters - 1)), 1)])

    def test_a_ring(self):
        for quarters in (2, 3, 4, 5, 6):
            self.assertEqual(self.strength(Town(quarters, ring_pairs(range(quarters)))), (quarters, quarters - 1))

    def test_a_ring_of_three_whole(self):
        strength, parting, counted = self.ask(strength_of, Town(3, [(0, 1), (1, 2), (2, 0)]))
        self.assertEqual((strength, parting), ((3, 2), [[0], [1], [2]]))
        self.assertEqual(counted, [([0, 1], 1), ([0, 2], 1), ([1, 2], 1)])

    def test_a_fraction_that_is_brought_to_lowest_terms(self):
        self.assertEqual(self.strength(Town(3, [(0, 1), (1, 2), (2, 0), (0, 1)])), (2, 1))
        self.assertEqual(self.strength(Town(5, full_pairs(5))), (5, 2))

    def test_several_bridges_between_the_same_two_quarters(self):
        for bridges in range(1, 13):
            self.assertEqual(self.strength(Town(2, [(0, 1)] * bridges)), (bridges, 1))
        self.assertEqual(self.strength(Town(3, [(0, 1)] * 9 + [(1, 2)] * 3)), (3, 1))
        self.assertEqual(self.strength(Town(3, [(0, 1), (1, 2), (2, 0)] * 3)), (9, 2))

    def test_full_towns_of_few_quarters(self):
        for quarters, strength in ((2, (1, 1)), (3, (3, 2)), (4, (2, 1)), (5, (5, 2))):
            self.assertEqual(self.strength(Town(quarters, full_pairs(quarters))), strength)

    def test_a_weak_place_in_a_strong_town(self):
        self.assertEqual(self.strength(Town(5, full_pairs(4) + [(4, 0)])), (1, 1))
        self.assertEqual(self.strength(Town(5, full_pairs(4) + [(4, 0), (4, 1)])), (2, 1))
        two_rings = ring_pairs([0, 2, 4]) + ring_pairs([1, 3, 5])
        self.assertEqual(self.strength(Town(6, two_rings + [(0, 1)])), (1, 1))
        self.assertEqual(self.strength(Town(6, two_rings + [(0, 1), (2, 3)])), (8, 5))
        self.assertEqual(self.strength(Town(6, ring_pairs(range(6)) * 2)), (12, 5))

    def test_six_quarters_with_twelve_bridges(self):
        for town in COUNTABLE_TOWNS:
            self.assertEqual(Fraction(*self.strength(town)), strength_by_trying(town))


class AgainstAllPartings(StrengthCase):
    def assert_as_tried(self, towns):
        for town in towns:
            self.assertEqual(Fraction(*self.strength(town)), strength_by_trying(town), town.bridges)

    def test_every_town_of_two_and_three_quarters(self):
        for bridges in range(6):
            self.assert_as_tried(every_town(2, bridges))
            self.assert_as_tried(every_town(3, bridges))

    def test_every_town_of_four_quarters(self):
        for bridges in range(5):
            self.assert_as_tried(every_town(4, bridges))

    def test_towns_of_all_sizes(self):
        self.assert_as_tried([some_town(seed, 6, 12) for seed in range(150)])
        self.assert_as_tried([full_town(seed, 4 + seed % 3, 9 + seed % 4) for seed in range(150)])

    def test_nought_just_where_nothing_joins_all(self):
        for seed in range(60):
            town = some_town(seed, 6, 12)
            joined = len(pieces_by_spreading(town, range(len(town.bridges)))) == 1
            self.assertEqual(self.strength(town) != (0, 1), joined)
            self.assertEqual(bool(joinings_by_trying(town)), joined)


class Refused(StrengthCase):
    def test_one_quarter_is_too_small(self):
        self.assert_refused(TooSmall, strength_of, Town(1, []))

    def test_what_is_too_large(self):
        for town in TOO_LARGE_TOWNS:
            with self.subTest(quarters=town.quarters, bridges=len(town.bridges)):
                self.assert_refused(TooLarge, strength_of, town)


class Soon(StrengthCase):
    def test_the_largest_towns_are_answered_soon(self):
        for town in COUNTABLE_TOWNS:
            self.assert_answered_soon(strength_of, town)
