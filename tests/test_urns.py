import itertools
import unittest
from fractions import Fraction

from growurns.errors import NoBall, NoDraws, NoKind, NoNumber, NoRule, NoUrn
from growurns.urns import after, chance, chance_of, is_rule, is_urn, urn_behind
from tests.helpers import CROSSED, FOUR, HUGE, POLYA, UrnCase, exact_course, no_draws_of_two
from tests.helpers import no_kinds_of, no_numbers, no_rules_of_two, no_tuples, no_urns, pair, square


class TestIsUrn(UrnCase):

    def test_urns(self):
        for urn in [(1,), (20,), (1, 0), (0, 1), (3, 4), (0, 0, 1), (0, 0, 0, 1), (20, 20, 20, 20), (0, 20)]:
            self.tells(True, is_urn, urn)

    def test_each_number_of_balls(self):
        for number in range(-3, 25):
            self.tells(0 <= number <= 20, is_urn, (1, number))
            self.tells(1 <= number <= 20, is_urn, (number,))
            self.tells(1 <= number <= 20, is_urn, (0, 0, number, 0))

    def test_no_urns(self):
        for thing in no_urns():
            self.tells(False, is_urn, thing)


class TestIsRule(UrnCase):

    def test_rules(self):
        for kinds in (1, 2, 3, 4):
            for number in (0, 1, 5):
                self.tells(True, is_rule, kinds, square(kinds, number))
        self.tells(True, is_rule, 2, CROSSED)
        self.tells(True, is_rule, 4, FOUR)

    def test_of_as_many_kinds_alone(self):
        for kinds in (1, 2, 3, 4):
            for rows in range(0, 6):
                for width in range(0, 6):
                    thing = tuple((1,) * width for row in range(rows))
                    self.tells(rows == kinds and width == kinds, is_rule, kinds, thing)

    def test_each_number_put_in(self):
        for number in range(-3, 10):
            for at in range(9):
                flat = [1] * 9
                flat[at] = number
                thing = (tuple(flat[:3]), tuple(flat[3:6]), tuple(flat[6:]))
                self.tells(0 <= number <= 5, is_rule, 3, thing)

    def test_no_rules(self):
        for thing in no_rules_of_two():
            self.tells(False, is_rule, 2, thing)
        for thing in no_tuples() + [(), (1,), ((),), ((6,),), ((True,),), ([1],), (((1,),),)]:
            self.tells(False, is_rule, 1, thing)

    def test_number_of_kinds_is_refused_ahead_of_anything(self):
        for kinds in no_numbers() + [0, 5, -1, HUGE, -HUGE]:
            for thing in [POLYA, ((1,),), (), None, [1], square(5, 1)]:
                self.refuses(NoNumber, is_rule, kinds, thing)


class TestChance(UrnCase):

    def test_chances(self):
        self.tells((1, 4), chance, (1, 3), 0)
        self.tells((3, 4), chance, (1, 3), 1)
        self.tells((1, 2), chance, (2, 4, 6), 2)
        self.tells((1, 3), chance, (2, 4, 0), 0)
        self.tells((1, 4), chance, (20, 20, 20, 20), 3)

    def test_of_nought_and_of_one(self):
        self.tells((0, 1), chance, (0, 7), 0)
        self.tells((1, 1), chance, (0, 7), 1)
        self.tells((1, 1), chance, (20,), 0)
        self.tells((0, 1), chance, (0, 0, 5, 0), 3)

    def test_every_urn_of_two_kinds(self):
        for urn in itertools.product(range(21), repeat=2):
            if urn != (0, 0):
                for kind in (0, 1):
                    exact = Fraction(urn[kind], sum(urn))
                    self.tells(pair(exact), chance, urn, kind)

    def test_refusals(self):
        for urn in no_urns():
            self.refuses(NoUrn, chance, urn, 0)
        for urn in [(3,), (1, 2), (1, 2, 3), (1, 2, 3, 4)]:
            for kind in no_kinds_of(len(urn)):
                self.refuses(NoKind, chance, urn, kind)
        self.refuses_in_order(chance, [((1, 2), [1, 2], NoUrn), (1, 2, NoKind)])


class TestAfter(UrnCase):

    def test_the_row_of_the_drawn_kind_is_put_in(self):
        self.tells((2, 2), after, (1, 2), POLYA, 0)
        self.tells((1, 3), after, (1, 2), POLYA, 1)
        self.tells((1, 4), after, (1, 2), CROSSED, 0)
        self.tells((4, 3), after, (1, 2), CROSSED, 1)
        self.tells((5, 5, 5, 5), after, (5, 4, 3, 2), FOUR, 0)
        self.tells((10, 8, 6, 4), after, (5, 4, 3, 2), FOUR, 1)
        self.tells((5, 4, 3, 2), after, (5, 4, 3, 2), FOUR, 3)

    def test_of_one_kind(self):
        for number in range(6):
            self.tells((7 + number,), after, (7,), ((number,),), 0)

    def test_may_outgrow_an_urn_that_is_handed_in(self):
        self.tells((25, 25), after, (20, 20), square(2, 5), 1)
        self.assertFalse(is_urn(after((20, 20), square(2, 5), 1)))

    def test_a_ball_of_another_kind_may_be_missing(self):
        self.tells((1, 2), after, (0, 1), ((0, 0), (1, 1)), 1)

    def test_refusals(self):
        self.refuses_urns_and_rules(after, 0)
        for kind in no_kinds_of(2):
            self.refuses(NoKind, after, (1, 2), POLYA, kind)
        self.refuses(NoBall, after, (0, 2), POLYA, 0)
        self.refuses(NoBall, after, (2, 1, 0, 3), FOUR, 2)

    def test_refusals_in_order(self):
        for kind in (0, 1):
            self.refuses_in_order(after, [
                ((1, 2), (21, 2), NoUrn), (POLYA, ((1,),), NoRule), (kind, True, NoKind),
            ])
        self.refuses(NoRule, after, (0, 2), square(3, 1), 0)
        self.refuses(NoKind, after, (0, 2), POLYA, False)
        self.refuses(NoKind, after, (0, 2), POLYA, 2)


class TestDraws(UrnCase):

    def check(self, urn, rule, draws):
        exact, behind = exact_course(urn, rule, draws)
        self.tells(pair(exact), chance_of, urn, rule, draws)
        self.tells(behind, urn_behind, urn, rule, draws)

    def test_written_out(self):
        self.tells((1, 12), chance_of, (1, 1), POLYA, (0, 0, 1))
        self.tells((3, 2), urn_behind, (1, 1), POLYA, (0, 0, 1))
        self.tells((3, 8), chance_of, (1, 1), CROSSED, (0, 1))
        self.tells((4, 4), urn_behind, (1, 1), CROSSED, (0, 1))

    def test_no_draws_at_all(self):
        for urn, rule in [((3,), ((5,),)), ((1, 2), CROSSED), ((1, 2, 3, 4), FOUR)]:
            self.tells((1, 1), chance_of, urn, rule, ())
            self.tells(urn, urn_behind, urn, rule, ())

    def test_the_urn_behind_no_draws_is_none_that_was_handed_in(self):
        urn = (1, 2)
        self.assertIsNot(urn_behind(urn, POLYA, ()), urn)

    def test_twenty_draws(self):
        self.check((1, 2), CROSSED, (0, 1) * 10)
        self.check((20, 20, 20, 20), FOUR, (0, 1, 2, 3) * 5)
        self.tells((1, 1), chance_of, (1,), ((5,),), (0,) * 20)
        self.tells((101,), urn_behind, (1,), ((5,),), (0,) * 20)
        self.tells((1, 21), chance_of, (1, 1), POLYA, (0,) * 20)
        self.tells((21, 1), urn_behind, (1, 1), POLYA, (0,) * 20)

    def test_all_short_draws(self):
        for urn in [(1, 2), (0, 3), (20, 1)]:
            for rule in [POLYA, CROSSED, square(2, 0), ((0, 0), (0, 5))]:
                for length in range(6):
                    for draws in itertools.product((0, 1), repeat=length):
                        self.check(urn, rule, draws)
        for urn in [(1, 0, 2, 4), (0, 0, 0, 1)]:
            for length in range(5):
                for draws in itertools.product(range(4), repeat=length):
                    self.check(urn, FOUR, draws)

    def test_without_a_chance(self):
        self.tells((0, 1), chance_of, (0, 2), POLYA, (0,))
        self.tells(None, urn_behind, (0, 2), POLYA, (0,))
        self.tells((0, 1), chance_of, (0, 2), POLYA, (1, 1, 0, 1))
        self.tells(None, urn_behind, (0, 2), POLYA, (1, 1, 0, 1))

    def test_a_kind_that_comes_in_later_has_no_chance_before(self):
        rule = ((0, 0), (1, 0))
        self.tells((0, 1), chance_of, (0, 1), rule, (0, 1))
        self.tells(None, urn_behind, (0, 1), rule, (0, 1))
        self.tells((1, 2), chance_of, (0, 1), rule, (1, 0))
        self.tells((1, 1), urn_behind, (0, 1), rule, (1, 0))

    def test_refusals(self):
        for call in (chance_of, urn_behind):
            self.refuses_urns_and_rules(call, (0, 1))
            for draws in no_draws_of_two():
                self.refuses(NoDraws, call, (1, 2), POLYA, draws)
            self.refuses(NoDraws, call, (1,), ((1,),), (1,))
            self.refuses(NoDraws, call, (1, 1, 1, 1), FOUR, (4,))
            self.refuses(NoDraws, call, (1, 1, 1, 1), FOUR, (3,) * 21)

    def test_refusals_in_order(self):
        for call in (chance_of, urn_behind):
            self.refuses_in_order(call, [
                ((1, 2), (0, 0), NoUrn), (POLYA, ((1, 0), (0, 6)), NoRule), ((0, 1), (0, 2), NoDraws),
            ])

    def test_a_wrong_draw_is_refused_behind_one_without_a_chance(self):
        for call in (chance_of, urn_behind):
            self.refuses(NoDraws, call, (0, 2), POLYA, (0, 2))
            self.refuses(NoDraws, call, (0, 2), POLYA, (0,) * 21)


if __name__ == "__main__":
    unittest.main()
