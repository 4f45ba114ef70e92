import itertools
import unittest
from fractions import Fraction

from growurns.errors import NoKind, NoNumber, NoRule, NoUrn
from growurns.means import is_fair, mean, mean_shares, spread
from growurns.urns import chance
from tests.helpers import COURSES, CROSSED, FOUR, OWN_ALONE, POLYA, UrnCase, every_order
from tests.helpers import no_kinds_of, no_numbers_up_to, pair, square


def exact_mean(worth, urn, rule, draws):
    """The mean of what an urn is worth, gone through order by order."""
    ends = every_order(urn, rule, draws)
    return sum((exact * worth(behind) for order, exact, behind in ends if exact), Fraction(0))


def exact_shares(urn, rule, draws):
    """The mean shares, gone through order by order."""
    return tuple(pair(exact_mean(lambda now: Fraction(now[kind], sum(now)), urn, rule, draws))
                 for kind in range(len(urn)))


class TestMean(UrnCase):

    def test_written_out(self):
        self.tells(((4, 3), (8, 3)), mean, (1, 2), POLYA, 1)
        self.tells(((3, 1), (10, 3)), mean, (1, 2), CROSSED, 1)
        self.tells(((163, 35), (502, 105)), mean, (1, 2), CROSSED, 2)

    def test_none_drawn(self):
        for urn, rule in COURSES:
            self.tells(tuple((balls, 1) for balls in urn), mean, urn, rule, 0)

    def test_against_all_orders(self):
        for urn, rule in COURSES:
            for draws in (1, 2, 4):
                exact = [exact_mean(lambda now: now[kind], urn, rule, draws) for kind in range(len(urn))]
                self.tells(tuple(map(pair, exact)), mean, urn, rule, draws)

    def test_six_draws(self):
        for urn, rule in COURSES[:12] + [((1, 0, 2, 4), FOUR)]:
            exact = [exact_mean(lambda now: now[kind], urn, rule, 6) for kind in range(len(urn))]
            self.tells(tuple(map(pair, exact)), mean, urn, rule, 6)

    def test_of_one_kind_and_of_rules_that_put_in_the_same_always(self):
        self.tells(((50, 1),), mean, (20,), ((5,),), 6)
        self.tells(((31, 1), (32, 1), (33, 1), (34, 1)), mean, (1, 2, 3, 4), square(4, 5), 6)
        self.tells(((3, 1), (0, 1)), mean, (3, 0), square(2, 0), 6)

    def test_a_kind_that_never_comes_stays_away(self):
        self.tells(((0, 1), (9, 1)), mean, (0, 3), POLYA, 6)

    def test_refusals(self):
        self.refuses_urns_and_rules(mean, 1)
        for draws in no_numbers_up_to(6):
            self.refuses(NoNumber, mean, (1, 2), POLYA, draws)
        self.refuses_in_order(mean, [((1, 2), (0, 0), NoUrn), (POLYA, square(3, 1), NoRule), (6, 7, NoNumber)])


class TestMeanShares(UrnCase):

    def test_written_out(self):
        self.tells(((1, 3), (2, 3)), mean_shares, (1, 2), POLYA, 1)
        # Behind a draw of kind 0 (1, 4), else (4, 3): 1/3 * 1/5 + 2/3 * 4/7.
        self.tells(((47, 105), (58, 105)), mean_shares, (1, 2), CROSSED, 1)

    def test_none_drawn(self):
        for urn, rule in COURSES:
            self.tells(tuple(chance(urn, kind) for kind in range(len(urn))), mean_shares, urn, rule, 0)

    def test_against_all_orders(self):
        for urn, rule in COURSES:
            for draws in (1, 2, 4):
                self.tells(exact_shares(urn, rule, draws), mean_shares, urn, rule, draws)

    def test_six_draws(self):
        for urn, rule in COURSES[:12] + [((1, 0, 2, 4), FOUR)]:
            self.tells(exact_shares(urn, rule, 6), mean_shares, urn, rule, 6)

    def test_are_not_the_shares_of_the_mean(self):
        # The mean behind the draw has the shares 2/9 and 7/9.
        urn, rule = (1, 1), ((0, 5), (0, 0))
        self.tells(((1, 1), (7, 2)), mean, urn, rule, 1)
        self.tells(((9, 28), (19, 28)), mean_shares, urn, rule, 1)

    def test_of_nought_and_of_one(self):
        self.tells(((0, 1), (1, 1)), mean_shares, (0, 3), POLYA, 6)
        self.tells(((1, 1),), mean_shares, (20,), ((5,),), 6)

    def test_come_to_one(self):
        for urn, rule in COURSES:
            self.assertEqual(sum(Fraction(*part) for part in mean_shares(urn, rule, 6)), 1)

    def test_refusals(self):
        self.refuses_urns_and_rules(mean_shares, 1)
        for draws in no_numbers_up_to(6):
            self.refuses(NoNumber, mean_shares, (1, 2), POLYA, draws)
        self.refuses_in_order(mean_shares, [
            ((1, 2), (1, 2, 3, 4, 5), NoUrn), (POLYA, ((1, 0), (0, True)), NoRule), (0, -1, NoNumber),
        ])


class TestIsFair(UrnCase):

    def test_rules_that_put_in_as_many_of_the_kind_drawn(self):
        for more in range(6):
            for kinds in (1, 2, 3, 4):
                rule = tuple(tuple(more if kind == row else 0 for kind in range(kinds)) for row in range(kinds))
                for urn in [(20, 3, 0, 7)[:kinds], (1, 1, 1, 1)[:kinds], (2, 0, 0, 0)[:kinds]]:
                    self.tells(True, is_fair, urn, rule)

    def test_others(self):
        self.tells(False, is_fair, (1, 2), CROSSED)
        self.tells(False, is_fair, (2, 3), OWN_ALONE)
        self.tells(True, is_fair, (5, 0), OWN_ALONE)
        self.tells(True, is_fair, (1, 1), ((0, 5), (5, 0)))
        self.tells(False, is_fair, (1, 2), ((0, 5), (5, 0)))
        self.tells(True, is_fair, (3, 3, 3, 3), square(4, 5))
        self.tells(False, is_fair, (3, 3, 3, 2), square(4, 5))
        self.tells(True, is_fair, (1, 2, 3, 4), square(4, 0))

    def test_against_all_orders(self):
        for urn, rule in COURSES:
            self.tells(exact_shares(urn, rule, 1) == exact_shares(urn, rule, 0), is_fair, urn, rule)
        for numbers in itertools.product((0, 1, 3), repeat=4):
            rule = (numbers[:2], numbers[2:])
            for urn in [(1, 1), (1, 2), (3, 1), (0, 1)]:
                self.tells(exact_shares(urn, rule, 1) == exact_shares(urn, rule, 0), is_fair, urn, rule)

    def test_one_share_may_stay_while_others_do_not(self):
        first = ((0, 1, 1), ((0, 0, 0), (0, 2, 0), (0, 1, 0)))
        last = ((1, 1, 0), ((2, 0, 0), (1, 0, 0), (0, 0, 0)))
        for urn, rule in (first, last):
            at = urn.index(0)
            self.assertEqual(exact_shares(urn, rule, 1)[at], exact_shares(urn, rule, 0)[at])
            self.tells(False, is_fair, urn, rule)

    def test_refusals(self):
        self.refuses_urns_and_rules(is_fair)
        self.refuses_in_order(is_fair, [((1, 2), [1, 2], NoUrn), (POLYA, ((1,),), NoRule)])


class TestSpread(UrnCase):

    def check(self, urn, rule, draws):
        for kind in range(len(urn)):
            squares = exact_mean(lambda now: now[kind] ** 2, urn, rule, draws)
            middle = exact_mean(lambda now: now[kind], urn, rule, draws)
            self.tells(pair(squares - middle ** 2), spread, urn, rule, kind, draws)

    def test_written_out(self):
        # One ball or none of kind 0 is put in, with the chances 1/3 and 2/3.
        self.tells((2, 9), spread, (1, 2), POLYA, 0, 1)
        self.tells((1, 4), spread, (1, 1), POLYA, 1, 1)
        self.tells((25, 4), spread, (1, 1), ((0, 5), (0, 0)), 1, 1)

    def test_none_drawn(self):
        for urn, rule in COURSES:
            for kind in range(len(urn)):
                self.tells((0, 1), spread, urn, rule, kind, 0)

    def test_against_all_orders(self):
        for urn, rule in COURSES:
            for draws in (1, 2, 4):
                self.check(urn, rule, draws)

    def test_six_draws(self):
        for urn, rule in COURSES[:12] + [((1, 0, 2, 4), FOUR)]:
            self.check(urn, rule, 6)

    def test_nought_where_nothing_hangs_on_the_draw(self):
        self.tells((0, 1), spread, (20,), ((5,),), 0, 6)
        self.tells((0, 1), spread, (3, 1), square(2, 4), 1, 6)
        self.tells((0, 1), spread, (0, 3), POLYA, 0, 6)

    def test_refusals(self):
        self.refuses_urns_and_rules(spread, 0, 1)
        for kind in no_kinds_of(2):
            self.refuses(NoKind, spread, (1, 2), POLYA, kind, 1)
        self.refuses(NoKind, spread, (1,), ((1,),), 1, 1)
        self.refuses(NoKind, spread, (1, 2, 3, 4), FOUR, 4, 1)
        for draws in no_numbers_up_to(6):
            self.refuses(NoNumber, spread, (1, 2), POLYA, 0, draws)

    def test_refusals_in_order(self):
        for rule, kind, draws in [(((1, 0),), 2, 7), (None, True, None), (square(1, 1), -1, False)]:
            self.refuses_in_order(spread, [
                ((1, 2), (21, 2), NoUrn), (POLYA, rule, NoRule), (1, kind, NoKind), (6, draws, NoNumber),
            ])


if __name__ == "__main__":
    unittest.main()
