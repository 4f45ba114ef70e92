import itertools
import unittest
from fractions import Fraction
from math import factorial

from growurns.errors import NoDraws, NoNumber, NoRule, NoUrn
from growurns.orders import any_order, first_unlike, orders_alike
from growurns.urns import chance_of
from tests.helpers import COURSES, CROSSED, EVEN_FOUR, FOUR, OWN_ALONE, OWN_FOUR, POLYA, SWAPPED, UrnCase
from tests.helpers import every_order, exact_course, no_draws_of_two, no_numbers_up_to, pair, square


def exact_unlike(urn, rule, draws):
    """All tuples of two orders of one another with unlike chances, the lesser ahead, rising."""
    known = every_order(urn, rule, draws)
    return [(one, other) for one, its, behind in known for other, others, end in known
            if one < other and sorted(one) == sorted(other) and its != others]


def exact_any(urn, rule, draws):
    """The chance of all orders of the draws, gone through one by one."""
    orders = set(itertools.permutations(draws))
    return sum((exact_course(urn, rule, order)[0] for order in orders), Fraction(0))


class TestOrdersAlike(UrnCase):

    def check(self, urn, rule, draws):
        unlike = exact_unlike(urn, rule, draws)
        self.tells(not unlike, orders_alike, urn, rule, draws)
        self.tells(unlike[0] if unlike else None, first_unlike, urn, rule, draws)

    def test_written_out(self):
        self.tells(True, orders_alike, (1, 2), POLYA, 4)
        self.tells(None, first_unlike, (1, 2), POLYA, 4)
        # 1/3 * 4/5 against 2/3 * 4/7.
        self.tells(False, orders_alike, (1, 2), CROSSED, 2)
        self.tells(((0, 1), (1, 0)), first_unlike, (1, 2), CROSSED, 2)

    def test_none_and_one_have_one_order_alone(self):
        for urn, rule in COURSES:
            for draws in (0, 1):
                self.tells(True, orders_alike, urn, rule, draws)
                self.tells(None, first_unlike, urn, rule, draws)

    def test_against_all_pairs(self):
        for urn, rule in COURSES:
            for draws in (2, 3):
                self.check(urn, rule, draws)

    def test_four_draws(self):
        for urn, rule in COURSES:
            self.check(urn, rule, 4)

    def test_every_small_rule(self):
        for numbers in itertools.product((0, 1, 5), repeat=4):
            for urn in [(1, 1), (3, 1), (0, 2)]:
                self.check(urn, (numbers[:2], numbers[2:]), 3)

    def test_the_first_unlike_may_be_alike_for_long(self):
        # Kinds 2 and 3 alone hang on the order, so the first tuples are alike.
        rule = ((1, 0, 0, 0), (0, 1, 0, 0), (0, 0, 0, 1), (0, 0, 0, 1))
        self.tells(((2, 3), (3, 2)), first_unlike, (1, 1, 1, 1), rule, 2)
        self.tells(((0, 0, 2, 3), (0, 0, 3, 2)), first_unlike, (1, 1, 1, 1), rule, 4)

    def test_a_lesser_order_may_be_alike_ahead_of_one_that_is_not(self):
        # Of (0, 0, 1) the second order is like the first one, the third is not.
        found = [(urn, (numbers[:2], numbers[2:])) for urn in [(1, 1), (1, 2), (2, 1)]
                 for numbers in itertools.product(range(4), repeat=4)
                 if exact_unlike(urn, (numbers[:2], numbers[2:]), 3)[:1] == [((0, 0, 1), (1, 0, 0))]]
        self.assertTrue(found)
        for urn, rule in found:
            self.tells(((0, 0, 1), (1, 0, 0)), first_unlike, urn, rule, 3)

    def test_draws_without_a_chance_count(self):
        rule = ((0, 0), (1, 0))
        self.tells(False, orders_alike, (0, 1), rule, 2)
        self.tells(((0, 1), (1, 0)), first_unlike, (0, 1), rule, 2)
        self.tells(True, orders_alike, (0, 3), POLYA, 4)

    def test_simple_rules_are_alike_and_uneven_ones_are_not(self):
        self.tells(True, orders_alike, (1, 2, 3, 4), OWN_FOUR, 4)
        self.tells(False, orders_alike, (2, 3), OWN_ALONE, 2)
        self.tells(True, orders_alike, (20,), ((5,),), 4)
        self.tells(True, orders_alike, (1, 2, 3, 4), square(4, 5), 0)

    def test_refusals(self):
        for call in (orders_alike, first_unlike):
            self.refuses_urns_and_rules(call, 1)
            for draws in no_numbers_up_to(4):
                self.refuses(NoNumber, call, (1, 2), POLYA, draws)
            self.refuses_in_order(call, [
                ((1, 2), (True, 2), NoUrn), (POLYA, ((1, 0), [0, 1]), NoRule), (4, 5, NoNumber),
            ])


class TestAnyOrder(UrnCase):

    def test_written_out(self):
        # 1/3 * 2/4 twice, and 1/3 * 4/5 + 2/3 * 4/7.
        self.tells((1, 3), any_order, (1, 2), POLYA, (0, 1))
        self.tells((68, 105), any_order, (1, 2), CROSSED, (0, 1))

    def test_no_draws_at_all(self):
        for urn, rule in COURSES:
            self.tells((1, 1), any_order, urn, rule, ())

    def test_one_order_alone(self):
        for urn, rule in COURSES:
            for draws in [(0,), (0,) * 20, (len(urn) - 1,) * 7]:
                self.tells(chance_of(urn, rule, draws), any_order, urn, rule, draws)

    def test_against_all_orders(self):
        for urn, rule in COURSES:
            for many in (2, 4):
                for draws in itertools.combinations_with_replacement(range(len(urn)), many):
                    self.tells(pair(exact_any(urn, rule, draws)), any_order, urn, rule, draws)
        for draws in [(0, 1, 2, 3, 0, 1), (0, 1, 1, 3, 3, 3), (2, 2, 2, 1, 1, 0)]:
            self.tells(pair(exact_any((1, 2, 0, 4), FOUR, draws)), any_order, (1, 2, 0, 4), FOUR, draws)

    def test_the_order_in_which_they_are_handed_in_is_nothing(self):
        told = any_order((1, 2, 0, 4), FOUR, (0, 1, 1, 3))
        for draws in itertools.permutations((0, 1, 1, 3)):
            self.tells(told, any_order, (1, 2, 0, 4), FOUR, draws)

    def test_twenty_draws(self):
        for urn, rule in [((1, 2), CROSSED), ((20, 20), SWAPPED), ((0, 3), CROSSED)]:
            for kinds in [(0, 1), (1, 0)]:
                exact = Fraction(0)
                for places in itertools.combinations(range(20), 2):
                    order = [kinds[0] if at in places else kinds[1] for at in range(20)]
                    exact += exact_course(urn, rule, order)[0]
                draws = (kinds[0],) * 2 + (kinds[1],) * 18
                self.tells(pair(exact), any_order, urn, rule, draws)

    def test_all_that_twenty_draws_may_have_come_to_one(self):
        for urn, rule in [((1, 2), CROSSED), ((20, 20), SWAPPED), ((0, 3), ((0, 0), (5, 0)))]:
            told = [any_order(urn, rule, (0,) * many + (1,) * (20 - many)) for many in range(21)]
            self.assertEqual(sum(Fraction(*chance) for chance in told), 1)

    def test_twenty_draws_of_four_kinds(self):
        # Where nothing is put in each of these orders has the same chance.
        orders = factorial(20) // factorial(5) ** 4
        draws = (0, 1, 2, 3) * 5
        self.tells(pair(Fraction(orders, 4 ** 20)), any_order, (1, 1, 1, 1), square(4, 0), draws)
        self.tells(pair(orders * exact_course((1, 2, 3, 4), OWN_FOUR, draws)[0]),
                   any_order, (1, 2, 3, 4), OWN_FOUR, draws)

    def test_twenty_draws_of_four_kinds_by_any_rule(self):
        for rule in (FOUR, EVEN_FOUR):
            exact = Fraction(0)
            for places in itertools.permutations(range(20), 3):
                order = [3] * 20
                for kind, at in enumerate(places):
                    order[at] = kind
                exact += exact_course((3, 0, 1, 2), rule, order)[0]
            self.tells(pair(exact), any_order, (3, 0, 1, 2), rule, (0, 1, 2) + (3,) * 17)

    def test_without_a_chance(self):
        self.tells((0, 1), any_order, (0, 2), POLYA, (0,))
        self.tells((0, 1), any_order, (0, 2), POLYA, (1, 1, 0, 1))
        self.tells((0, 1), any_order, (0, 1), ((0, 0), (1, 0)), (0, 0))

    def test_some_orders_without_a_chance(self):
        # Kind 0 comes in by the first draw of kind 1 alone.
        self.tells((1, 2), any_order, (0, 1), ((0, 0), (1, 0)), (0, 1))

    def test_of_one(self):
        self.tells((1, 1), any_order, (7,), ((5,),), (0,) * 20)
        self.tells((1, 1), any_order, (0, 2), POLYA, (1,) * 20)

    def test_refusals(self):
        self.refuses_urns_and_rules(any_order, (0, 1))
        for draws in no_draws_of_two():
            self.refuses(NoDraws, any_order, (1, 2), POLYA, draws)
        self.refuses(NoDraws, any_order, (1,), ((1,),), (1,))
        self.refuses(NoDraws, any_order, (1, 2, 3, 4), FOUR, (4,))
        self.refuses(NoDraws, any_order, (1, 2, 3, 4), FOUR, (0, 1, 2) * 7)
        self.refuses_in_order(any_order, [
            ((1, 2), (21, 2), NoUrn), (POLYA, ((1, 0), (0, 6)), NoRule), ((0, 1), (0, 2), NoDraws),
        ])


if __name__ == "__main__":
    unittest.main()
