import itertools
import unittest
from fractions import Fraction

from growurns.errors import NoNumber, NoRule, NotEven, NoUrn
from growurns.stands import growth, stands, ways, ways_to
from growurns.urns import chance
from tests.helpers import CROSSED, EVEN_FOUR, EVEN_THREE, FOUR, HUGE, POLYA, SWAPPED, UrnCase, every_order
from tests.helpers import no_numbers, no_numbers_up_to, no_rules_of_two, no_urns_behind, pair, square


def exact_stands(urn, rule, draws):
    """The stands, gone through order by order."""
    chances = {}
    for order, exact, behind in every_order(urn, rule, draws):
        if exact:
            chances[behind] = chances.get(behind, 0) + exact
    return [(behind, pair(exact)) for behind, exact in sorted(chances.items())]


def ways_ball_by_ball(urn, rule, draws):
    """How many ways lead to each urn, by lists of single balls."""
    balls = [kind for kind, many in enumerate(urn) for ball in range(many)]
    ends = {}

    def draw(balls, left):
        if left == 0:
            behind = tuple(balls.count(kind) for kind in range(len(urn)))
            ends[behind] = ends.get(behind, 0) + 1
            return
        for kind in balls:
            put = [new for new, many in enumerate(rule[kind]) for ball in range(many)]
            draw(balls + put, left - 1)

    draw(balls, draws)
    return ends


class TestStands(UrnCase):

    def test_written_out(self):
        self.tells([((1, 3), (2, 3)), ((2, 2), (1, 3))], stands, (1, 2), POLYA, 1)
        self.tells([((1, 3), (1, 3)), ((2, 2), (1, 3)), ((3, 1), (1, 3))], stands, (1, 1), POLYA, 2)
        self.tells([((1, 5), (1, 8)), ((4, 4), (17, 24)), ((7, 3), (1, 6))], stands, (1, 1), CROSSED, 2)

    def test_none_drawn(self):
        for urn, rule in [((3,), ((5,),)), ((0, 2), CROSSED), ((1, 2, 3, 4), FOUR)]:
            self.tells([(urn, (1, 1))], stands, urn, rule, 0)

    def test_the_urn_told_behind_none_is_none_that_was_handed_in(self):
        urn = (1, 2)
        self.assertIsNot(stands(urn, POLYA, 0)[0][0], urn)

    def test_against_all_orders(self):
        for urn in [(1, 1), (0, 3), (20, 20), (7, 0)]:
            for rule in [POLYA, CROSSED, SWAPPED, square(2, 0), square(2, 5), ((0, 0), (5, 0))]:
                for draws in range(7):
                    self.tells(exact_stands(urn, rule, draws), stands, urn, rule, draws)
        for draws in range(7):
            self.tells(exact_stands((5,), ((2,),), draws), stands, (5,), ((2,),), draws)
            self.tells(exact_stands((2, 0, 1), EVEN_THREE, draws), stands, (2, 0, 1), EVEN_THREE, draws)
        for draws in (1, 3, 6):
            self.tells(exact_stands((1, 0, 2, 4), FOUR, draws), stands, (1, 0, 2, 4), FOUR, draws)

    def test_urns_that_come_about_in_several_ways_are_told_once(self):
        self.tells([((3, 3), (1, 1))], stands, (1, 1), square(2, 1), 2)
        self.tells([((2, 5), (1, 1))], stands, (2, 5), square(2, 0), 6)

    def test_chances_come_to_one_and_none_is_nought(self):
        for urn, rule in [((0, 3), CROSSED), ((1, 0, 0, 2), FOUR), ((20, 20, 20, 20), EVEN_FOUR)]:
            told = stands(urn, rule, 6)
            self.assertEqual(sum(Fraction(*exact) for behind, exact in told), 1)
            self.assertTrue(all(exact[0] > 0 for behind, exact in told))

    def test_rising(self):
        told = stands((1, 2, 3, 4), FOUR, 6)
        self.assertTrue(all(one < other for one, other in zip(told, told[1:])))

    def test_behind_one_draw_as_the_chance_of_its_kind(self):
        self.tells([((2, 2), chance((1, 2), 0)), ((1, 3), chance((1, 2), 1))][::-1],
                   stands, (1, 2), POLYA, 1)

    def test_may_outgrow_an_urn_that_is_handed_in(self):
        self.tells([((50, 50), (1, 1))], stands, (20, 20), square(2, 5), 6)

    def test_refusals(self):
        self.refuses_urns_and_rules(stands, 1)
        for draws in no_numbers_up_to(6):
            self.refuses(NoNumber, stands, (1, 2), POLYA, draws)
        self.refuses_in_order(stands, [
            ((1, 2), (1, 2, 3, 4, 5), NoUrn), (POLYA, square(1, 1), NoRule), (6, 7, NoNumber),
        ])


class TestGrowth(UrnCase):

    def test_even_rules(self):
        self.tells(1, growth, 2, POLYA)
        self.tells(3, growth, 2, SWAPPED)
        self.tells(2, growth, 3, EVEN_THREE)
        self.tells(5, growth, 4, EVEN_FOUR)
        for kinds in (1, 2, 3, 4):
            for number in (0, 1, 5):
                self.tells(kinds * number, growth, kinds, square(kinds, number))

    def test_other_rules(self):
        self.tells(None, growth, 2, CROSSED)
        self.tells(None, growth, 4, FOUR)
        self.tells(None, growth, 2, ((0, 0), (0, 1)))
        self.tells(None, growth, 3, ((1, 0, 0), (0, 1, 0), (0, 0, 2)))
        self.tells(None, growth, 3, ((1, 0, 0), (0, 2, 0), (0, 0, 1)))

    def test_rows_count_and_not_columns(self):
        self.tells(None, growth, 2, ((1, 2), (1, 0)))
        self.tells(1, growth, 2, ((1, 0), (1, 0)))

    def test_refusals(self):
        for kinds in no_numbers() + [0, 5, -1, HUGE, -HUGE]:
            self.refuses(NoNumber, growth, kinds, POLYA)
        for rule in no_rules_of_two():
            self.refuses(NoRule, growth, 2, rule)
        for kinds in (1, 3, 4):
            self.refuses(NoRule, growth, kinds, POLYA)
        self.refuses_in_order(growth, [(2, 0, NoNumber), (POLYA, [], NoRule)])


class TestWays(UrnCase):

    def test_written_out(self):
        self.tells(3 * 4 * 5, ways, (1, 2), POLYA, 3)
        self.tells(3 * 6 * 9 * 12, ways, (1, 2), SWAPPED, 4)
        self.tells(3 * 3 * 3, ways, (1, 2), square(2, 0), 3)
        self.tells(20 * 25, ways, (20,), ((5,),), 2)
        self.tells(80, ways, (20, 20, 20, 20), EVEN_FOUR, 1)

    def test_of_none_one(self):
        for urn, rule in [((20,), ((5,),)), ((0, 7), POLYA), ((1, 2, 3, 4), EVEN_FOUR)]:
            self.tells(1, ways, urn, rule, 0)

    def test_forty(self):
        product = 1
        for turn in range(40):
            product *= 80 + 20 * turn
        self.tells(product, ways, (20, 20, 20, 20), square(4, 5), 40)
        self.tells(1, ways, (1,), ((0,),), 40)
        self.tells(2 ** 40, ways, (2, 0), square(2, 0), 40)

    def test_ball_by_ball(self):
        for urn, rule in [((1, 1), POLYA), ((0, 2), SWAPPED), ((1, 0, 1), EVEN_THREE), ((2,), ((1,),))]:
            for draws in range(4):
                ends = ways_ball_by_ball(urn, rule, draws)
                self.tells(sum(ends.values()), ways, urn, rule, draws)

    def test_refusals(self):
        self.refuses_urns_and_rules(ways, 1)
        for draws in no_numbers_up_to(40):
            self.refuses(NoNumber, ways, (1, 2), POLYA, draws)
        self.refuses(NotEven, ways, (1, 2), CROSSED, 1)
        self.refuses(NotEven, ways, (1, 2), CROSSED, 0)
        self.refuses(NotEven, ways, (1, 2, 3, 4), FOUR, 40)

    def test_refusals_in_order(self):
        for wrong, due in [((1, 0), NoRule), (square(3, 1), NoRule), (CROSSED, NotEven)]:
            self.refuses_in_order(ways, [
                ((1, 2), (True, 2), NoUrn), (POLYA, wrong, due), (40, 41, NoNumber),
            ])


class TestWaysTo(UrnCase):

    def test_written_out(self):
        self.tells(1 * 2, ways_to, (1, 2), POLYA, 2, (3, 2))
        self.tells(2 * 3, ways_to, (1, 2), POLYA, 2, (1, 4))
        self.tells(2 * (1 * 2), ways_to, (1, 2), POLYA, 2, (2, 3))

    def test_none_drawn(self):
        self.tells(1, ways_to, (1, 2), POLYA, 0, (1, 2))
        self.tells(0, ways_to, (1, 2), POLYA, 0, (2, 1))
        self.tells(1, ways_to, (20,), ((5,),), 0, (20,))

    def test_ball_by_ball(self):
        for urn, rule in [((1, 1), POLYA), ((0, 2), SWAPPED), ((1, 0, 1), EVEN_THREE), ((2,), ((1,),))]:
            for draws in range(4):
                ends = ways_ball_by_ball(urn, rule, draws)
                for other in itertools.product(range(9), repeat=len(urn)):
                    if sum(other) > 0:
                        self.tells(ends.get(other, 0), ways_to, urn, rule, draws, other)

    def test_the_chance_is_these_through_all(self):
        for urn, rule in [((20, 20), square(2, 5)), ((3, 1), SWAPPED), ((20, 20, 20, 20), EVEN_FOUR)]:
            for draws in range(7):
                through = ways(urn, rule, draws)
                for behind, exact in stands(urn, rule, draws):
                    lead = ways_to(urn, rule, draws, behind)
                    self.assertEqual(Fraction(lead, through), Fraction(*exact))

    def test_all_ways_lead_somewhere(self):
        for draws in range(7):
            leading = [ways_to((1, 2, 0, 4), EVEN_FOUR, draws, behind)
                       for behind, exact in stands((1, 2, 0, 4), EVEN_FOUR, draws)]
            self.assertEqual(sum(leading), ways((1, 2, 0, 4), EVEN_FOUR, draws))

    def test_last_urns_from_nought_to_sixty(self):
        self.tells(40 * 50 * 60 * 70 * 80 * 90, ways_to, (20, 20), square(2, 5), 6, (50, 50))
        for other in [(60, 60), (0, 60), (60, 0), (21, 0), (1, 0)]:
            self.tells(0, ways_to, (1, 2), POLYA, 6, other)
        self.tells(2 ** 6, ways_to, (0, 2), square(2, 0), 6, (0, 2))
        self.tells(0, ways_to, (1, 1, 1, 1), EVEN_FOUR, 6, (60, 60, 60, 60))

    def test_refusals(self):
        self.refuses_urns_and_rules(ways_to, 1, (1, 2))
        for draws in no_numbers_up_to(6):
            self.refuses(NoNumber, ways_to, (1, 2), POLYA, draws, (1, 2))
        for other in no_urns_behind():
            self.refuses(NoUrn, ways_to, (1, 2), POLYA, 1, other)
            self.refuses(NoUrn, ways_to, (1, 2), POLYA, 0, other)
        self.refuses(NotEven, ways_to, (1, 2), CROSSED, 1, (1, 2))

    def test_the_first_urn_keeps_to_twenty(self):
        self.refuses(NoUrn, ways_to, (21, 1), POLYA, 1, (22, 1))
        self.refuses(NoUrn, ways_to, (60, 60), POLYA, 0, (60, 60))

    def test_refusals_in_order(self):
        for wrong, due in [(((1, 0),), NoRule), (None, NoRule), (CROSSED, NotEven)]:
            for other in [(61, 1), (0, 0), (1,), None]:
                self.refuses_in_order(ways_to, [
                    ((1, 2), (21, 2), NoUrn), (POLYA, wrong, due), (6, 7, NoNumber), ((1, 2), other, NoUrn),
                ])


if __name__ == "__main__":
    unittest.main()
