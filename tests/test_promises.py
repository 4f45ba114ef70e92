"""What the head of the document promises over all functions."""

import copy
import unittest
from math import gcd

from growurns.desk import Desk
from growurns.errors import UrnError
from growurns.means import is_fair, mean, mean_shares, spread
from growurns.notes import fraction_text, rule_read, rule_text, urn_read, urn_text
from growurns.orders import any_order, first_unlike, orders_alike
from growurns.rests import is_rest, rest
from growurns.simple import counts_chance, next_shares
from growurns.stands import growth, stands, ways, ways_to
from growurns.two import two_shares, two_stands
from growurns.urns import after, chance, chance_of, is_rule, is_urn, urn_behind
from growurns.waits import all_drawn, first_drawn, not_drawn
from tests.helpers import CROSSED, EVEN_FOUR, FOUR, POLYA, SWAPPED, no_counts_of_two, no_draws_of_two
from tests.helpers import no_kinds_of, no_numbers_up_to, no_rules_of_two, no_texts, no_urns, no_urns_behind, square

QUESTIONS = [
    (is_urn, ((1, 2),)), (is_urn, ([1, 2],)), (is_urn, ({0: [1]},)), (is_urn, (([1], 2),)),
    (is_rule, (2, POLYA)), (is_rule, (2, [[1, 0], [0, 1]])), (is_rule, (2, ([1, 0], [0, 1]))),
    (chance, ((1, 2), 0)), (after, ((1, 2), CROSSED, 1)),
    (chance_of, ((1, 2), CROSSED, (0, 1, 1))), (urn_behind, ((1, 2), CROSSED, (0, 1, 1))),
    (urn_behind, ((0, 2), CROSSED, (0,))), (urn_behind, ((0, 2), CROSSED, ())),
    (stands, ((1, 2), CROSSED, 0)), (stands, ((1, 2), CROSSED, 6)), (stands, ((1, 2, 3, 4), FOUR, 3)),
    (growth, (2, POLYA)), (growth, (2, CROSSED)), (ways, ((1, 2), POLYA, 40)),
    (ways_to, ((1, 2), POLYA, 6, (4, 5))),
    (mean, ((1, 2), CROSSED, 0)), (mean, ((1, 2, 3, 4), FOUR, 4)), (mean_shares, ((1, 2), CROSSED, 0)),
    (mean_shares, ((1, 2, 3, 4), FOUR, 4)), (is_fair, ((1, 2), CROSSED)), (is_fair, ((1, 2), POLYA)),
    (spread, ((1, 2), CROSSED, 1, 6)), (orders_alike, ((1, 2), CROSSED, 3)), (first_unlike, ((1, 2), CROSSED, 3)),
    (first_unlike, ((1, 2), POLYA, 4)), (any_order, ((1, 2), CROSSED, (0, 1, 1))), (any_order, ((1, 2), CROSSED, ())),
    (counts_chance, ((1, 2), 3, (4, 5))), (next_shares, ((1, 2), 3, (4, 5))), (next_shares, ((1, 2), 0, (0, 0))),
    (next_shares, ((0, 2), 0, (1, 0))), (rest, (2, SWAPPED)), (rest, (2, POLYA)),
    (is_rest, (2, SWAPPED, ((3, 5), (2, 5)))), (is_rest, (2, POLYA, [[1, 2], [1, 2]])),
    (is_rest, (2, POLYA, ([1, 2], [1, 2]))), (is_rest, (2, POLYA, {0: [1, 2]})),
    (first_drawn, ((1, 2), CROSSED, 0, 0)), (first_drawn, ((1, 2), CROSSED, 0, 6)),
    (first_drawn, ((0, 2), POLYA, 0, 6)), (first_drawn, ((5,), ((2,),), 0, 6)),
    (first_drawn, ((1, 2, 3, 4), FOUR, 3, 4)),
    (not_drawn, ((1, 2), CROSSED, 0, 0)), (not_drawn, ((1, 2), CROSSED, 0, 6)), (not_drawn, ((5,), ((2,),), 0, 6)),
    (all_drawn, ((1, 2), CROSSED, 0)), (all_drawn, ((1, 2), CROSSED, 6)), (all_drawn, ((0, 2), POLYA, 6)),
    (two_stands, ((1, 2), (2, 1), CROSSED, 0)), (two_stands, ((1, 2), (2, 1), CROSSED, 4)),
    (two_stands, ((1, 2), (2, 1), square(2, 0), 3)), (two_stands, ((1, 2, 3, 4), (4, 0, 2, 1), FOUR, 3)),
    (two_shares, ((1, 2), (2, 1), CROSSED, 0)), (two_shares, ((1, 2), (2, 1), CROSSED, 4)),
    (two_shares, ((0, 2), (0, 1), POLYA, 4)), (two_shares, ((5,), (1,), ((2,),), 3)),
    (urn_text, ((1, 2),)), (rule_text, (CROSSED,)), (fraction_text, ((1, 2),)), (fraction_text, ((3, 1),)),
    (urn_read, ("1,2",)), (rule_read, (2, "0,2/3,1")),
]

# Those that tell one fraction, those that tell a tuple of them, or None, and those
# that tell tuples whose last part is one.
FRACTIONS = (chance, chance_of, spread, any_order, counts_chance, not_drawn, all_drawn)
FRACTIONS_BY_KIND = (mean, mean_shares, next_shares, rest)
FRACTIONS_BEHIND = (stands, two_stands)


def spoil(thing):
    """Change every list and dict of a thing."""
    if isinstance(thing, (list, tuple)):
        for part in thing:
            spoil(part)
    if isinstance(thing, list):
        thing.clear()
        thing.append("spoilt")
    if isinstance(thing, dict):
        thing.clear()


def parts_of(thing):
    """Every list and tuple of a thing, itself, too."""
    if not isinstance(thing, (list, tuple)):
        return []
    return [thing] + [inner for part in thing for inner in parts_of(part)]


def lists_of(thing):
    """Every list of a thing, itself, too."""
    return [part for part in parts_of(thing) if isinstance(part, list)]


class TestWhatIsHandedIn(unittest.TestCase):

    def test_is_unchanged(self):
        for call, arguments in QUESTIONS:
            before = copy.deepcopy(arguments)
            call(*arguments)
            self.assertEqual(repr(arguments), repr(before), call.__name__)

    def test_is_unchanged_where_it_is_refused(self):
        refused = [(chance, (urn, 0)) for urn in no_urns()]
        refused += [(after, ((1, 2), rule, 0)) for rule in no_rules_of_two()]
        refused += [(chance_of, ((1, 2), POLYA, draws)) for draws in no_draws_of_two()]
        refused += [(stands, ((1, 2), POLYA, draws)) for draws in no_numbers_up_to(6)]
        refused += [(ways_to, ((1, 2), POLYA, 1, other)) for other in no_urns_behind()]
        refused += [(counts_chance, ((1, 2), 1, counts)) for counts in no_counts_of_two()]
        refused += [(rest, (2, rule)) for rule in no_rules_of_two()]
        refused += [(first_drawn, ((1, 2), POLYA, kind, 1)) for kind in no_kinds_of(2)]
        refused += [(all_drawn, ((1, 2), POLYA, draws)) for draws in no_numbers_up_to(6)]
        refused += [(two_stands, (urn, (1, 2), POLYA, 1)) for urn in no_urns()]
        refused += [(two_shares, ((1, 2), urn, POLYA, 1)) for urn in no_urns()]
        refused += [(urn_read, (thing,)) for thing in no_texts()]
        refused += [(rule_read, (2, thing)) for thing in no_texts()]
        refused += [(Desk().say, (thing,)) for thing in no_texts()]
        for call, arguments in refused:
            before = copy.deepcopy(arguments)
            with self.assertRaises(UrnError):
                call(*arguments)
            self.assertEqual(repr(arguments), repr(before), call.__name__)

    def test_is_not_kept(self):
        for call, arguments in QUESTIONS:
            handed_in = copy.deepcopy(arguments)
            told = copy.deepcopy(call(*handed_in))
            spoil(handed_in)
            self.assertEqual(call(*copy.deepcopy(arguments)), told, call.__name__)

    def test_no_part_of_it_is_told(self):
        for call, arguments in QUESTIONS:
            # There is but one tuple of nothing in Python, so it is left out.
            handed_in = [thing for thing in parts_of(arguments) if thing != ()]
            for part in parts_of(call(*arguments)):
                self.assertTrue(all(part is not thing for thing in handed_in), call.__name__)


class TestWhatIsTold(unittest.TestCase):

    def test_the_same_again(self):
        for call, arguments in QUESTIONS:
            self.assertEqual(repr(call(*arguments)), repr(call(*arguments)), call.__name__)

    def test_is_the_askers_own(self):
        for call, arguments in QUESTIONS:
            told = call(*arguments)
            kept = copy.deepcopy(told)
            spoil(told)
            self.assertEqual(call(*arguments), kept, call.__name__)

    def test_no_two_lists_are_one(self):
        for call, arguments in QUESTIONS:
            found = lists_of(call(*arguments)) + lists_of(call(*arguments))
            self.assertEqual(len({id(inner) for inner in found}), len(found), call.__name__)

    def test_a_refusal_changes_nothing_that_is_told_later(self):
        before = stands((1, 2), CROSSED, 4)
        for draws in no_numbers_up_to(6):
            with self.assertRaises(UrnError):
                stands((1, 2), CROSSED, draws)
        self.assertEqual(stands((1, 2), CROSSED, 4), before)


class TestFractions(unittest.TestCase):

    def check(self, told):
        self.assertIs(type(told), tuple)
        top, bottom = told
        self.assertIs(type(top), int)
        self.assertIs(type(bottom), int)
        self.assertGreaterEqual(bottom, 1)
        self.assertEqual(gcd(top, bottom), 1)

    def test_in_lowest_terms(self):
        for urn in [(2, 4), (0, 6), (6, 0), (20, 20), (15, 5)]:
            for rule in [POLYA, CROSSED, square(2, 0), square(2, 4)]:
                self.check(chance(urn, 0))
                self.check(chance_of(urn, rule, (0, 1, 0, 1)))
                for draws in (0, 1, 6):
                    for behind, told in stands(urn, rule, draws):
                        self.check(told)
        for behind, told in stands((20, 16, 12, 8), EVEN_FOUR, 6):
            self.check(told)

    def test_of_every_function(self):
        for call, arguments in QUESTIONS:
            told = call(*arguments)
            if call in FRACTIONS:
                self.check(told)
            if call in FRACTIONS_BY_KIND and told is not None:
                self.assertIs(type(told), tuple)
                for part in told:
                    self.check(part)
            if call in FRACTIONS_BEHIND:
                self.assertIs(type(told), list)
                for stand in told:
                    self.assertIs(type(stand), tuple)
                    self.check(stand[-1])

    def test_of_waits_and_of_two_urns(self):
        for call, arguments in QUESTIONS:
            told = call(*arguments)
            if call == first_drawn:
                self.assertIs(type(told), list)
                self.assertEqual(len(told), arguments[-1])
                for part in told:
                    self.check(part)
            if call == two_shares:
                self.assertEqual((type(told), len(told)), (tuple, 2))
                for shares in told:
                    self.assertEqual((type(shares), len(shares)), (tuple, len(arguments[0])))
                    for part in shares:
                        self.check(part)

    def test_of_nought_and_of_whole_ones(self):
        self.assertEqual(chance((0, 6), 0), (0, 1))
        self.assertEqual(chance((0, 6), 1), (1, 1))
        self.assertEqual(chance_of((0, 6), POLYA, (1, 0)), (0, 1))
        self.assertEqual(chance_of((0, 6), POLYA, (1, 1)), (1, 1))
        self.assertEqual(stands((4, 6), square(2, 2), 2), [((8, 10), (1, 1))])
        self.assertEqual(mean((4, 0), POLYA, 2), ((6, 1), (0, 1)))
        self.assertEqual(mean_shares((4, 0), POLYA, 2), ((1, 1), (0, 1)))
        self.assertEqual(spread((4, 0), POLYA, 0, 2), (0, 1))
        self.assertEqual(any_order((0, 6), POLYA, (1, 0)), (0, 1))
        self.assertEqual(counts_chance((0, 6), 2, (0, 5)), (1, 1))
        self.assertEqual(next_shares((0, 6), 2, (0, 5)), ((0, 1), (1, 1)))
        self.assertEqual(rest(2, ((2, 0), (1, 1))), ((1, 1), (0, 1)))
        self.assertEqual(first_drawn((0, 6), POLYA, 1, 2), [(1, 1), (0, 1)])
        self.assertEqual(not_drawn((0, 6), POLYA, 0, 2), (1, 1))
        self.assertEqual(not_drawn((0, 6), POLYA, 1, 2), (0, 1))
        self.assertEqual(all_drawn((0, 6), POLYA, 2), (1, 1))
        self.assertEqual(all_drawn((2, 6), POLYA, 1), (0, 1))
        self.assertEqual(two_stands((4, 6), (2, 2), square(2, 2), 2), [((6, 8), (4, 4), (1, 1))])
        self.assertEqual(two_shares((0, 6), (0, 4), POLYA, 2), (((0, 1), (1, 1)), ((0, 1), (1, 1))))


if __name__ == "__main__":
    unittest.main()
