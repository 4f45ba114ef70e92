import itertools
import unittest
from fractions import Fraction

from growurns.errors import NoCounts, NoNumber, NoUrn
from growurns.orders import any_order
from growurns.simple import counts_chance, next_shares
from growurns.urns import chance
from tests.helpers import UrnCase, every_order, no_counts_of_two, no_numbers_up_to, no_urns, pair

URNS = [(1,), (20,), (1, 1), (3, 2), (0, 4), (2, 0, 5), (1, 2, 3), (1, 2, 0, 4), (20, 20, 20, 20), (0, 0, 0, 1)]


def own_rule(kinds, more):
    """The rule of a simple urn, as rules are written out."""
    return tuple(tuple(more if kind == row else 0 for kind in range(kinds)) for row in range(kinds))


def exact_counts(urn, more, draws):
    """The chances by counts, gone through order by order."""
    chances = {}
    for order, exact, behind in every_order(urn, own_rule(len(urn), more), draws):
        counts = tuple(order.count(kind) for kind in range(len(urn)))
        chances[counts] = chances.get(counts, 0) + exact
    return chances


def exact_walk(urn, more, counts):
    """The chance of the counts, each draw told by the counts ahead of it."""
    known = {(0,) * len(urn): Fraction(1)}
    for ahead in itertools.product(*[range(many + 1) for many in counts]):
        for kind in range(len(urn)):
            later = tuple(many + (at == kind) for at, many in enumerate(ahead))
            part = known[ahead] * Fraction(urn[kind] + more * ahead[kind], sum(urn) + more * sum(ahead))
            known[later] = known.get(later, 0) + part
    return known[counts]


def all_counts(kinds, most):
    """All counts of so many kinds that come to at most so many together."""
    return [counts for counts in itertools.product(range(most + 1), repeat=kinds) if sum(counts) <= most]


class TestCountsChance(UrnCase):

    def test_written_out(self):
        self.tells((1, 3), counts_chance, (1, 2), 1, (1, 1))
        self.tells((1, 6), counts_chance, (1, 2), 1, (2, 0))
        self.tells((4, 9), counts_chance, (1, 2), 0, (1, 1))
        self.tells((1, 4), counts_chance, (1, 1), 1, (1, 2))
        self.tells((3, 8), counts_chance, (1, 1), 0, (1, 2))
        # 2 * 1/3 * 2/8.
        self.tells((1, 6), counts_chance, (1, 2), 5, (1, 1))

    def test_against_all_orders(self):
        for urn in URNS:
            for more in range(6):
                for draws in range(5):
                    for counts, exact in exact_counts(urn, more, draws).items():
                        self.tells(pair(exact), counts_chance, urn, more, counts)

    def test_counts_of_nought_alone(self):
        for urn in URNS:
            for more in (0, 1, 5):
                self.tells((1, 1), counts_chance, urn, more, (0,) * len(urn))

    def test_forty_together(self):
        for more in (0, 1, 5):
            self.tells((1, 1), counts_chance, (20,), more, (40,))
            self.tells((1, 1), counts_chance, (0, 3), more, (0, 40))
            self.tells(pair(exact_walk((3, 2), more, (25, 15))), counts_chance, (3, 2), more, (25, 15))
            counts = (12, 0, 20, 8)
            self.tells(pair(exact_walk((1, 2, 7, 4), more, counts)), counts_chance, (1, 2, 7, 4), more, counts)
        self.tells((1, 41), counts_chance, (1, 1), 1, (40, 0))
        self.tells((1, 41), counts_chance, (1, 1), 1, (13, 27))
        self.tells((1, 2 ** 40), counts_chance, (1, 1), 0, (0, 40))

    def test_forty_of_four_kinds(self):
        counts = (10, 10, 10, 10)
        self.tells(pair(exact_walk((1, 2, 3, 4), 3, counts)), counts_chance, (1, 2, 3, 4), 3, counts)

    def test_come_to_one(self):
        for more in (0, 2, 5):
            told = [counts_chance((3, 2), more, (many, 40 - many)) for many in range(41)]
            self.assertEqual(sum(Fraction(*exact) for exact in told), 1)

    def test_as_any_order_of_the_rule(self):
        for more in range(6):
            draws = (0, 1, 2, 3) * 4 + (1, 1, 3, 3)
            told = any_order((1, 2, 5, 4), own_rule(4, more), draws)
            self.tells(told, counts_chance, (1, 2, 5, 4), more, (4, 6, 4, 6))

    def test_without_a_chance(self):
        for more in (0, 1, 5):
            self.tells((0, 1), counts_chance, (0, 4), more, (1, 0))
            self.tells((0, 1), counts_chance, (0, 4), more, (1, 39))
            self.tells((0, 1), counts_chance, (2, 0, 5, 1), more, (0, 40, 0, 0))

    def test_refusals(self):
        for urn in no_urns():
            self.refuses(NoUrn, counts_chance, urn, 1, (1, 2))
        for more in no_numbers_up_to(5):
            self.refuses(NoNumber, counts_chance, (1, 2), more, (1, 2))
        for counts in no_counts_of_two():
            self.refuses(NoCounts, counts_chance, (1, 2), 1, counts)

    def test_refusals_of_other_kinds(self):
        self.refuses(NoCounts, counts_chance, (1,), 1, (41,))
        self.refuses(NoCounts, counts_chance, (1,), 1, ())
        self.refuses(NoCounts, counts_chance, (1, 2, 3, 4), 1, (10, 10, 10, 11))
        self.refuses(NoCounts, counts_chance, (1, 2, 3, 4), 1, (1, 1, 1))
        self.refuses(NoCounts, counts_chance, (1, 2, 3, 4), 1, (1, 1, 1, 1, 1))
        self.refuses(NoCounts, counts_chance, (1, 2, 3, 4), 1, [1, 1, 1, 1])

    def test_refusals_in_order(self):
        for more, counts in [(6, (40, 1)), (True, [1, 2]), (-1, (1,)), (None, None)]:
            self.refuses_in_order(counts_chance, [
                ((1, 2), (0, 0), NoUrn), (5, more, NoNumber), ((1, 2), counts, NoCounts),
            ])


class TestNextShares(UrnCase):

    def test_written_out(self):
        self.tells(((2, 5), (3, 5)), next_shares, (1, 2), 1, (1, 1))
        self.tells(((1, 3), (2, 3)), next_shares, (1, 2), 1, (0, 0))
        self.tells(((6, 13), (7, 13)), next_shares, (1, 2), 5, (1, 1))

    def test_are_the_chances_of_one_more_draw(self):
        for urn in URNS:
            for more in (0, 1, 3, 5):
                for counts in all_counts(len(urn), 3):
                    self.tells(self.by_orders(urn, more, counts), next_shares, urn, more, counts)

    def by_orders(self, urn, more, counts):
        """The next shares out of the chances of single draws, one more of each kind behind them."""
        rule = own_rule(len(urn), more)
        ahead = tuple(kind for kind, many in enumerate(counts) for draw in range(many))
        known = {order: exact for order, exact, behind in every_order(urn, rule, sum(counts) + 1)}
        through = sum(known[ahead + (kind,)] for kind in range(len(urn)))
        if through == 0:
            return None
        return tuple(pair(known[ahead + (kind,)] / through) for kind in range(len(urn)))

    def test_where_nothing_is_put_in_they_stay(self):
        for urn in URNS:
            counts = (1,) * len(urn) if min(urn) > 0 else (0,) * len(urn)
            self.tells(tuple(chance(urn, kind) for kind in range(len(urn))), next_shares, urn, 0, counts)

    def test_of_nought_and_of_one(self):
        self.tells(((0, 1), (1, 1)), next_shares, (0, 4), 5, (0, 40))
        self.tells(((1, 1),), next_shares, (20,), 5, (40,))

    def test_forty_together(self):
        # (51, 52, 53, 54) of 210 balls.
        self.tells(((17, 70), (26, 105), (53, 210), (9, 35)), next_shares, (1, 2, 3, 4), 5, (10, 10, 10, 10))
        self.tells(((41, 42), (1, 42)), next_shares, (1, 1), 1, (40, 0))

    def test_without_a_chance(self):
        for more in (0, 1, 5):
            self.tells(None, next_shares, (0, 4), more, (1, 0))
            self.tells(None, next_shares, (0, 4), more, (1, 39))
            self.tells(None, next_shares, (2, 0, 5, 1), more, (0, 40, 0, 0))

    def test_refusals(self):
        for urn in no_urns():
            self.refuses(NoUrn, next_shares, urn, 1, (1, 2))
        for more in no_numbers_up_to(5):
            self.refuses(NoNumber, next_shares, (1, 2), more, (1, 2))
        for counts in no_counts_of_two():
            self.refuses(NoCounts, next_shares, (1, 2), 1, counts)
        for more, counts in [(6, (40, 1)), (True, [1, 2]), (-1, (1,)), (None, None)]:
            self.refuses_in_order(next_shares, [
                ((1, 2), (21, 0), NoUrn), (5, more, NoNumber), ((1, 2), counts, NoCounts),
            ])


if __name__ == "__main__":
    unittest.main()
