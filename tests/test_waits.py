import unittest
from fractions import Fraction

from growurns.errors import NoKind, NoNumber, NoRule, NoUrn
from growurns.urns import chance
from growurns.waits import all_drawn, first_drawn, not_drawn
from tests.helpers import COURSES, CROSSED, FOUR, OWN_FOUR, POLYA, UrnCase, every_order
from tests.helpers import no_kinds_of, no_numbers_up_to, pair, square

# Six draws of four kinds are gone through for a few courses alone.
LONG_COURSES = COURSES[:14] + [((1, 0, 2, 4), FOUR)]


def exact_chance(holds, urn, rule, draws):
    """The chance that something holds of the draws, gone through order by order."""
    return sum((exact for order, exact, behind in every_order(urn, rule, draws) if holds(order)), Fraction(0))


def exact_firsts(urn, rule, kind, draws):
    """The chances of the first draw of a kind at each draw, gone through order by order."""
    return [pair(exact_chance(lambda order: order[at] == kind and kind not in order[:at], urn, rule, draws))
            for at in range(draws)]


class TestFirstDrawn(UrnCase):

    def check(self, urn, rule, draws):
        for kind in range(len(urn)):
            self.tells(exact_firsts(urn, rule, kind, draws), first_drawn, urn, rule, kind, draws)

    def test_written_out(self):
        # 1/3, then 2/3 * 1/4, then 2/3 * 3/4 * 1/5.
        self.tells([(1, 3), (1, 6), (1, 10)], first_drawn, (1, 2), POLYA, 0, 3)
        # Kind 1 puts in three of kind 0: 1/3, then 2/3 * 4/7.
        self.tells([(1, 3), (8, 21)], first_drawn, (1, 2), CROSSED, 0, 2)

    def test_none_drawn(self):
        for urn, rule in COURSES:
            for kind in range(len(urn)):
                self.tells([], first_drawn, urn, rule, kind, 0)

    def test_behind_one_draw_it_is_the_chance(self):
        for urn, rule in COURSES:
            for kind in range(len(urn)):
                self.tells([chance(urn, kind)], first_drawn, urn, rule, kind, 1)

    def test_against_all_orders(self):
        for urn, rule in COURSES:
            for draws in (2, 3, 4):
                self.check(urn, rule, draws)

    def test_six_draws(self):
        for urn, rule in LONG_COURSES:
            self.check(urn, rule, 6)

    def test_of_one_kind(self):
        for more in (0, 5):
            self.tells([(1, 1)] + [(0, 1)] * 5, first_drawn, (7,), ((more,),), 0, 6)

    def test_a_kind_that_never_comes(self):
        self.tells([(0, 1)] * 6, first_drawn, (0, 3), POLYA, 0, 6)
        self.tells([(0, 1)] * 6, first_drawn, (3, 0, 2, 1), OWN_FOUR, 1, 6)
        self.tells([(1, 1)] + [(0, 1)] * 5, first_drawn, (0, 3), POLYA, 1, 6)

    def test_a_kind_that_is_put_in_later(self):
        # Behind each draw of kind 1 there is one more of kind 0: 0, 1/2, 1/2 * 2/3.
        self.tells([(0, 1), (1, 2), (1, 3)], first_drawn, (0, 1), ((0, 0), (1, 0)), 0, 3)

    def test_nothing_put_in(self):
        self.tells([(1, 2), (1, 4), (1, 8), (1, 16), (1, 32), (1, 64)], first_drawn, (3, 3), square(2, 0), 1, 6)

    def test_fewer_draws_are_told_alike(self):
        for urn, rule in COURSES:
            told = first_drawn(urn, rule, 0, 6)
            for draws in range(7):
                self.tells(told[:draws], first_drawn, urn, rule, 0, draws)


class TestNotDrawn(UrnCase):

    def check(self, urn, rule, draws):
        for kind in range(len(urn)):
            exact = exact_chance(lambda order: kind not in order, urn, rule, draws)
            self.tells(pair(exact), not_drawn, urn, rule, kind, draws)

    def test_written_out(self):
        self.tells((2, 5), not_drawn, (1, 2), POLYA, 0, 3)
        self.tells((2, 7), not_drawn, (1, 2), CROSSED, 0, 2)

    def test_none_drawn(self):
        for urn, rule in COURSES:
            for kind in range(len(urn)):
                self.tells((1, 1), not_drawn, urn, rule, kind, 0)

    def test_against_all_orders(self):
        for urn, rule in COURSES:
            for draws in (1, 2, 3, 4):
                self.check(urn, rule, draws)

    def test_six_draws(self):
        for urn, rule in LONG_COURSES:
            self.check(urn, rule, 6)

    def test_of_nought_and_of_one(self):
        self.tells((0, 1), not_drawn, (7,), ((5,),), 0, 1)
        self.tells((0, 1), not_drawn, (0, 3), POLYA, 1, 6)
        self.tells((1, 1), not_drawn, (0, 3), POLYA, 0, 6)

    def test_comes_to_one_with_the_first_draws(self):
        for urn, rule in COURSES:
            for kind in range(len(urn)):
                for draws in (0, 5, 6):
                    told = first_drawn(urn, rule, kind, draws) + [not_drawn(urn, rule, kind, draws)]
                    self.assertEqual(sum(Fraction(*part) for part in told), 1)


class TestRefusalsOfWaits(UrnCase):

    def test_refusals(self):
        for call in (first_drawn, not_drawn):
            self.refuses_urns_and_rules(call, 0, 1)
            for kind in no_kinds_of(2):
                self.refuses(NoKind, call, (1, 2), POLYA, kind, 1)
            self.refuses(NoKind, call, (1,), ((1,),), 1, 1)
            self.refuses(NoKind, call, (1, 2, 3, 4), FOUR, 4, 1)
            for draws in no_numbers_up_to(6):
                self.refuses(NoNumber, call, (1, 2), POLYA, 0, draws)

    def test_refusals_in_order(self):
        for call in (first_drawn, not_drawn):
            for rule, kind, draws in [(((1, 0),), 2, 7), (None, True, None), (square(1, 1), -1, False)]:
                self.refuses_in_order(call, [
                    ((1, 2), (21, 2), NoUrn), (POLYA, rule, NoRule), (1, kind, NoKind), (6, draws, NoNumber),
                ])


class TestAllDrawn(UrnCase):

    def check(self, urn, rule, draws):
        there = {kind for kind, balls in enumerate(urn) if balls}
        exact = exact_chance(lambda order: there <= set(order), urn, rule, draws)
        self.tells(pair(exact), all_drawn, urn, rule, draws)

    def test_written_out(self):
        # 1/3 * 2/4 and 2/3 * 1/4.
        self.tells((1, 3), all_drawn, (1, 2), POLYA, 2)
        # 1/3 * 4/5 and 2/3 * 4/7.
        self.tells((68, 105), all_drawn, (1, 2), CROSSED, 2)
        # Three kinds, as many of each: 3/3 * 2/3 * 1/3.
        self.tells((2, 9), all_drawn, (4, 4, 4), square(3, 0), 3)

    def test_none_drawn(self):
        for urn, rule in COURSES:
            self.tells((0, 1), all_drawn, urn, rule, 0)

    def test_against_all_orders(self):
        for urn, rule in COURSES:
            for draws in (1, 2, 3, 4):
                self.check(urn, rule, draws)

    def test_six_draws(self):
        for urn, rule in LONG_COURSES + [((20, 19, 18, 17), FOUR)]:
            self.check(urn, rule, 6)

    def test_kinds_without_a_ball_at_first_are_not_waited_for(self):
        self.tells((1, 1), all_drawn, (0, 3), POLYA, 1)
        self.tells((1, 1), all_drawn, (0, 1), ((0, 0), (5, 0)), 1)
        self.tells((1, 1), all_drawn, (0, 0, 0, 1), FOUR, 6)
        # Two kinds of four are there at first: the one, then the other, though a third may come in.
        self.tells((2, 3), all_drawn, (1, 0, 1, 0), ((0, 0, 1, 0), (0, 0, 0, 0), (1, 0, 0, 0), (0, 0, 0, 0)), 2)
        self.tells((1, 3), all_drawn, (1, 0, 1, 0), ((0, 1, 0, 0), (0, 0, 0, 0), (0, 1, 0, 0), (0, 0, 0, 0)), 2)

    def test_too_few_draws_for_all_kinds(self):
        self.tells((0, 1), all_drawn, (20, 20, 20, 20), FOUR, 3)
        self.tells((0, 1), all_drawn, (1, 1), POLYA, 1)

    def test_of_one_kind(self):
        for draws in range(1, 7):
            self.tells((1, 1), all_drawn, (20,), ((5,),), draws)

    def test_of_two_kinds_by_what_is_not_drawn(self):
        for urn, rule in [((1, 2), CROSSED), ((4, 2), POLYA), ((20, 20), square(2, 5))]:
            for draws in range(1, 7):
                missing = [Fraction(*not_drawn(urn, rule, kind, draws)) for kind in (0, 1)]
                self.tells(pair(1 - sum(missing)), all_drawn, urn, rule, draws)

    def test_refusals(self):
        self.refuses_urns_and_rules(all_drawn, 1)
        for draws in no_numbers_up_to(6):
            self.refuses(NoNumber, all_drawn, (1, 2), POLYA, draws)
        self.refuses_in_order(all_drawn, [
            ((1, 2), [1, 2], NoUrn), (POLYA, ((1, 0), (0, 6)), NoRule), (6, 7, NoNumber),
        ])


if __name__ == "__main__":
    unittest.main()
