"""Each name of the interface is there, with the arguments that are listed, in their order."""

import importlib
import inspect
import unittest

INTERFACE = {
    "urns": {
        "is_urn": ["thing"], "is_rule": ["kinds", "thing"], "chance": ["urn", "kind"],
        "after": ["urn", "rule", "kind"], "chance_of": ["urn", "rule", "draws"], "urn_behind": ["urn", "rule", "draws"],
    },
    "stands": {
        "stands": ["urn", "rule", "draws"], "growth": ["kinds", "rule"], "ways": ["urn", "rule", "draws"],
        "ways_to": ["urn", "rule", "draws", "other"],
    },
    "means": {
        "mean": ["urn", "rule", "draws"], "mean_shares": ["urn", "rule", "draws"], "is_fair": ["urn", "rule"],
        "spread": ["urn", "rule", "kind", "draws"],
    },
    "orders": {
        "orders_alike": ["urn", "rule", "draws"], "first_unlike": ["urn", "rule", "draws"],
        "any_order": ["urn", "rule", "draws"],
    },
    "simple": {"counts_chance": ["urn", "more", "counts"], "next_shares": ["urn", "more", "counts"]},
    "rests": {"is_rest": ["kinds", "rule", "thing"], "rest": ["kinds", "rule"]},
    "waits": {
        "first_drawn": ["urn", "rule", "kind", "draws"], "not_drawn": ["urn", "rule", "kind", "draws"],
        "all_drawn": ["urn", "rule", "draws"],
    },
    "two": {"two_stands": ["one", "other", "rule", "draws"], "two_shares": ["one", "other", "rule", "draws"]},
    "notes": {
        "urn_text": ["urn"], "rule_text": ["rule"], "fraction_text": ["fraction"], "urn_read": ["text"],
        "rule_read": ["kinds", "text"],
    },
    "desk": {"Desk": []},
}


class TestInterface(unittest.TestCase):

    def test_functions(self):
        for module, names in INTERFACE.items():
            there = importlib.import_module(f"growurns.{module}")
            for name, arguments in names.items():
                listed = inspect.signature(getattr(there, name)).parameters.values()
                self.assertEqual([parameter.name for parameter in listed], arguments, name)
                self.assertTrue(all(parameter.default is parameter.empty for parameter in listed), name)

    def test_desk(self):
        desk = importlib.import_module("growurns.desk").Desk
        self.assertTrue(inspect.isclass(desk))
        self.assertEqual(list(inspect.signature(desk().say).parameters), ["line"])


if __name__ == "__main__":
    unittest.main()
