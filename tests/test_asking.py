"""What bridgecrews.asking asks of quarters, of the ends of a bridge and of a town's parts."""

import unittest

from bridgecrews.asking import check_town, is_quarter, joins_two
from bridgecrews.errors import BadTown


class IsQuarter(unittest.TestCase):
    def test_quarters_are_counted_from_nought(self):
        for quarters in (1, 2, 24):
            told = [number for number in range(-3, quarters + 3) if is_quarter(number, quarters)]
            self.assertEqual(told, list(range(quarters)))

    def test_far_numbers_are_none(self):
        self.assertIs(is_quarter(10 ** 69, 24), False)
        self.assertIs(is_quarter(-10 ** 69, 24), False)


class JoinsTwo(unittest.TestCase):
    def test_two_different_quarters(self):
        told = [(one, other) for one in range(-1, 4) for other in range(-1, 4) if joins_two(one, other, 3)]
        self.assertEqual(told, [(0, 1), (0, 2), (1, 0), (1, 2), (2, 0), (2, 1)])


class CheckTown(unittest.TestCase):
    def test_good_parts_pass_and_nothing_is_told(self):
        self.assertIsNone(check_town(1, []))
        self.assertIsNone(check_town(24, [(0, 23)] * 60))

    def test_bad_parts_are_refused(self):
        for quarters, bridges in ((0, []), (25, []), (2, [(0, 1)] * 61), (2, [(0, 2)]), (2, [(1, 1)])):
            with self.subTest(quarters=quarters, bridges=bridges):
                with self.assertRaises(BadTown):
                    check_town(quarters, bridges)


if __name__ == "__main__":
    unittest.main()
