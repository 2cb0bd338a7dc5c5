"""The names and arguments of the interface, as the document tells them."""

import importlib
import inspect
import unittest

FUNCTIONS = {
    "pieces": {
        "pieces_of": ["town", "some"], "joins_all": ["town", "some"], "way_over": ["town", "some", "one", "other"],
        "ring_over": ["town", "some"],
    },
    "partings": {"bridges_between": ["town", "parting"], "bridges_within": ["town", "quarters"]},
    "dealings": {"is_dealing": ["town", "dealing"], "shows_most": ["town", "dealing", "huddles"]},
    "most": {"most_dealt": ["town", "crews"]},
    "joining": {"joining_crews": ["town", "crews"], "most_joining": ["town"]},
    "covering": {"fewest_crews": ["town"], "all_by": ["town", "crews"]},
    "strength": {"strength_of": ["town"]},
    "crowding": {"crowding_of": ["town"]},
    "wages": {
        "level_shows": ["town", "some", "dealing", "huddles"], "dearest_dealing": ["town", "crews", "wages"],
        "cheapest_joining": ["town", "crews", "wages"],
    },
    "streets": {"reached_over": ["streets", "some", "one"]},
    "apart": {"ways_apart": ["streets", "one", "other"]},
}


class TheInterface(unittest.TestCase):
    def test_functions_are_there_with_their_arguments(self):
        for module, functions in FUNCTIONS.items():
            for name, arguments in functions.items():
                with self.subTest(module=module, name=name):
                    function = getattr(importlib.import_module(f"bridgecrews.{module}"), name)
                    self.assertEqual(list(inspect.signature(function).parameters), arguments)

    def test_a_town_is_made_of_quarters_and_bridges(self):
        town = importlib.import_module("bridgecrews.towns").Town
        self.assertEqual(list(inspect.signature(town).parameters), ["quarters", "bridges"])

    def test_streets_are_made_of_quarters_and_streets(self):
        streets = importlib.import_module("bridgecrews.streets").Streets
        self.assertEqual(list(inspect.signature(streets).parameters), ["quarters", "streets"])


if __name__ == "__main__":
    unittest.main()
