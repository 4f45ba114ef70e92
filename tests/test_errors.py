import inspect
import unittest

from growurns import errors
from tests.helpers import REFUSALS


class TestErrors(unittest.TestCase):

    def test_base_stands_straight_under_value_error(self):
        self.assertEqual(errors.UrnError.__bases__, (ValueError,))

    def test_each_refusal_stands_straight_under_the_base(self):
        for refusal in REFUSALS:
            self.assertEqual(refusal.__bases__, (errors.UrnError,), refusal)

    def test_all_listed_classes_are_there_by_name(self):
        listed = [
            "BadNote", "NoBall", "NoCounts", "NoDraws", "NoKind", "NoNumber", "NoRule",
            "NoUrn", "NotAlike", "NotEven", "UrnError",
        ]
        there = [name for name, thing in vars(errors).items() if inspect.isclass(thing)]
        self.assertEqual(sorted(there), listed)

    def test_each_is_made_with_a_text(self):
        for refusal in REFUSALS + (errors.UrnError,):
            self.assertEqual(str(refusal("why not")), "why not")
            with self.assertRaises(refusal):
                raise refusal("why not")


if __name__ == "__main__":
    unittest.main()
