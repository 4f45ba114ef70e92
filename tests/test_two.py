import itertools
import unittest
from fractions import Fraction

from growurns.errors import NoNumber, NoRule, NotAlike, NoUrn
from growurns.means import mean_shares
from growurns.two import two_shares, two_stands
from growurns.urns import chance
from tests.helpers import CROSSED, EVEN_FOUR, EVEN_THREE, FOUR, OWN_FOUR, POLYA, SWAPPED, UrnCase
from tests.helpers import no_numbers_up_to, no_rules_of_two, no_urns, pair, square

COUPLES = [
    ((5,), (1,), ((2,),)), ((20,), (20,), ((0,),)), ((1, 1), (1, 0), POLYA), ((1, 2), (3, 4), CROSSED),
    ((0, 3), (3, 0), CROSSED), ((0, 3), (0, 2), POLYA), ((7, 0), (1, 1), SWAPPED), ((20, 20), (20, 20), square(2, 5)),
    ((3, 4), (2, 1), square(2, 0)), ((2, 3), (3, 2), ((3, 0), (0, 1))), ((2, 2), (2, 2), POLYA),
    ((2, 0, 1), (0, 1, 1), EVEN_THREE), ((0, 6, 3), (1, 1, 0), ((2, 0, 0), (0, 2, 0), (0, 0, 2))),
    ((1, 0, 2, 4), (2, 1, 0, 1), FOUR), ((1, 2, 0, 4), (4, 3, 2, 1), OWN_FOUR),
    ((20, 19, 18, 17), (0, 0, 0, 1), EVEN_FOUR),
]


def exact_two(one, other, rule, order):
    """The chance of some draws in turn, and both urns behind them, by Python's own fractions."""
    urns = [list(one), list(other)]
    exact = Fraction(1)
    for turn, kind in enumerate(order):
        drawn, fed = urns[turn % 2], urns[1 - turn % 2]
        exact *= Fraction(drawn[kind], sum(drawn))
        for at, more in enumerate(rule[kind]):
            fed[at] += more
    return tuple(urns[0]), tuple(urns[1]), exact


def exact_two_ends(one, other, rule, draws):
    """The chances by both urns, gone through order by order."""
    chances = {}
    for order in itertools.product(range(len(one)), repeat=draws):
        first, second, exact = exact_two(one, other, rule, order)
        if exact:
            chances[first, second] = chances.get((first, second), 0) + exact
    return chances


def exact_two_stands(one, other, rule, draws):
    """The stands of both urns, gone through order by order."""
    ends = exact_two_ends(one, other, rule, draws)
    return [(first, second, pair(exact)) for (first, second), exact in sorted(ends.items())]


def exact_two_shares(one, other, rule, draws):
    """The mean shares of either urn, gone through order by order."""
    ends = exact_two_ends(one, other, rule, draws)
    return tuple(
        tuple(pair(sum((exact * Fraction(urns[which][kind], sum(urns[which])) for urns, exact in ends.items()),
                       Fraction(0)))
              for kind in range(len(one)))
        for which in (0, 1))


class TestTwoStands(UrnCase):

    def test_written_out(self):
        self.tells([((1, 1), (1, 1), (1, 2)), ((1, 1), (2, 0), (1, 2))], two_stands, (1, 1), (1, 0), POLYA, 1)
        self.tells([((1, 2), (1, 1), (1, 4)), ((2, 1), (1, 1), (1, 4)), ((2, 1), (2, 0), (1, 2))],
                   two_stands, (1, 1), (1, 0), POLYA, 2)

    def test_the_second_urn_is_drawn_from_second(self):
        # The first draw is of kind 0, and puts two of kind 1 beside the one of kind 0.
        self.tells([((2, 2), (1, 2), (1, 3)), ((5, 1), (1, 2), (2, 3))], two_stands, (2, 0), (1, 0), CROSSED, 2)

    def test_none_drawn(self):
        for one, other, rule in COUPLES:
            self.tells([(one, other, (1, 1))], two_stands, one, other, rule, 0)

    def test_against_all_orders(self):
        for one, other, rule in COUPLES:
            for draws in range(5):
                self.tells(exact_two_stands(one, other, rule, draws), two_stands, one, other, rule, draws)
                self.tells(exact_two_stands(other, one, rule, draws), two_stands, other, one, rule, draws)

    def test_chances_come_to_one_and_none_is_nought(self):
        for one, other, rule in COUPLES:
            told = two_stands(one, other, rule, 4)
            self.assertEqual(sum(Fraction(*exact) for first, second, exact in told), 1)
            self.assertTrue(all(exact[0] > 0 for first, second, exact in told))

    def test_rising(self):
        for one, other, rule in COUPLES:
            for draws in range(5):
                told = two_stands(one, other, rule, draws)
                self.assertTrue(all(ahead < behind for ahead, behind in zip(told, told[1:])))

    def test_urns_that_come_about_in_several_ways_are_told_once(self):
        self.tells([((3, 3), (3, 3), (1, 1))], two_stands, (1, 1), (1, 1), square(2, 1), 4)
        self.tells([((2, 5), (4, 1), (1, 1))], two_stands, (2, 5), (4, 1), square(2, 0), 4)

    def test_may_outgrow_urns_that_are_handed_in(self):
        self.tells([((30, 30), (30, 30), (1, 1))], two_stands, (20, 20), (20, 20), square(2, 5), 4)
        self.tells([((20,), (25,), (1, 1))], two_stands, (20,), (20,), ((5,),), 1)

    def test_the_same_urn_twice(self):
        urn = (2, 1)
        self.tells(exact_two_stands(urn, urn, CROSSED, 3), two_stands, urn, urn, CROSSED, 3)
        self.tells([((2, 1), (2, 1), (1, 1))], two_stands, urn, urn, CROSSED, 0)

    def test_none_of_the_urns_told_is_one_that_was_handed_in(self):
        one, other = (2, 1), (1, 2)
        for draws in (0, 1):
            for first, second, exact in two_stands(one, other, square(2, 0), draws):
                for told in (first, second):
                    self.assertTrue(told is not one and told is not other)


class TestTwoShares(UrnCase):

    def test_written_out(self):
        self.tells((((1, 2), (1, 2)), ((3, 4), (1, 4))), two_shares, (1, 1), (1, 0), POLYA, 1)
        # 3/4 of the draws from the second urn make the first one (2, 1), else (1, 2).
        self.tells((((7, 12), (5, 12)), ((3, 4), (1, 4))), two_shares, (1, 1), (1, 0), POLYA, 2)

    def test_none_drawn(self):
        for one, other, rule in COUPLES:
            shares = tuple(tuple(chance(urn, kind) for kind in range(len(urn))) for urn in (one, other))
            self.tells(shares, two_shares, one, other, rule, 0)

    def test_against_all_orders(self):
        for one, other, rule in COUPLES:
            for draws in range(5):
                self.tells(exact_two_shares(one, other, rule, draws), two_shares, one, other, rule, draws)
                self.tells(exact_two_shares(other, one, rule, draws), two_shares, other, one, rule, draws)

    def test_each_comes_to_one(self):
        for one, other, rule in COUPLES:
            for shares in two_shares(one, other, rule, 4):
                self.assertEqual(sum(Fraction(*part) for part in shares), 1)

    def test_of_nought_and_of_one(self):
        self.tells((((0, 1), (1, 1)), ((0, 1), (1, 1))), two_shares, (0, 3), (0, 2), POLYA, 4)
        self.tells((((1, 1),), ((1, 1),)), two_shares, (20,), (1,), ((5,),), 4)

    def test_the_first_draw_from_a_like_urn_is_as_from_one_urn_alone(self):
        # The first draw puts into the second urn what one urn alone puts into itself.
        self.assertEqual(two_shares((1, 2), (1, 2), CROSSED, 1)[1], mean_shares((1, 2), CROSSED, 1))


class TestRefusalsOfTwo(UrnCase):

    def test_urns(self):
        for call in (two_stands, two_shares):
            for wrong in no_urns():
                self.refuses(NoUrn, call, wrong, (1, 2), POLYA, 1)
                self.refuses(NoUrn, call, (1, 2), wrong, POLYA, 1)
                self.refuses(NoUrn, call, wrong, wrong, POLYA, 1)

    def test_unlike_kinds(self):
        urns = [(1,), (1, 2), (1, 2, 3), (1, 2, 3, 4)]
        for call in (two_stands, two_shares):
            for one, other in itertools.permutations(urns, 2):
                for rule in [square(len(one), 1), square(len(other), 1), None, ()]:
                    for draws in (0, 4, 5, None):
                        self.refuses(NotAlike, call, one, other, rule, draws)
            # What is none is refused ahead of unlike kinds.
            self.refuses(NoUrn, call, (1,), (0, 0), square(1, 1), 1)
            self.refuses(NoUrn, call, (0, 0), (1,), square(1, 1), 1)

    def test_rules_and_numbers(self):
        for call in (two_stands, two_shares):
            for rule in no_rules_of_two():
                self.refuses(NoRule, call, (1, 2), (3, 4), rule, 1)
            for draws in no_numbers_up_to(4):
                self.refuses(NoNumber, call, (1, 2), (3, 4), POLYA, draws)

    def test_in_order(self):
        for call in (two_stands, two_shares):
            for wrong, due in [((21, 1), NoUrn), ((1, 2, 3), NotAlike), ((1,), NotAlike)]:
                self.refuses_in_order(call, [
                    ((1, 2), (0, 0), NoUrn), ((3, 4), wrong, due), (POLYA, ((1, 0), [0, 1]), NoRule), (4, 5, NoNumber),
                ])


if __name__ == "__main__":
    unittest.main()
