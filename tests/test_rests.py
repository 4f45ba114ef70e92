import itertools
import random
import unittest
from fractions import Fraction

from growurns.errors import NoNumber, NoRule, NotEven
from growurns.rests import is_rest, rest
from growurns.stands import growth
from tests.helpers import CROSSED, EVEN_FOUR, EVEN_THREE, FOUR, HUGE, OWN_FOUR, POLYA, SWAPPED, UrnCase
from tests.helpers import no_numbers, no_rules_of_two, no_tuples, pair, square, wrong_parts

HALVES = ((1, 2), (1, 2))


def rows_of(kinds, together):
    """All rows of so many kinds that come to so many balls together."""
    return [row for row in itertools.product(range(6), repeat=kinds) if sum(row) == together]


def even_rules(kinds, many):
    """Some even rules, of all growths from 1 on, the same ones each time."""
    chosen = random.Random(kinds)
    found = []
    for turn in range(many):
        rows = rows_of(kinds, turn % (5 * kinds) + 1)
        if chosen.random() < 0.5:
            # Noughts come about more often so, and with them rests that are not alone.
            rows = sorted(rows, key=lambda row: -row.count(0))[:kinds * 5]
        found.append(tuple(chosen.choice(rows) for row in range(kinds)))
    return found


def exact_is_rest(rule, shares):
    """Whether the shares, Python's own fractions, are a rest."""
    more = sum(rule[0])
    return sum(shares) == 1 and min(shares) >= 0 and all(
        sum(part * row[kind] for part, row in zip(shares, rule)) == more * shares[kind]
        for kind in range(len(rule)))


def closed_sets(rule):
    """The sets of kinds, each led to from each other one of them, that no draw leads out of."""
    kinds = range(len(rule))
    leads = {kind: {kind} for kind in kinds}
    for turn in kinds:
        for kind in kinds:
            leads[kind] = leads[kind] | {far for near in leads[kind] for far in kinds if rule[near][far] > 0}
    return {frozenset(leads[kind]) for kind in kinds if all(kind in leads[far] for far in leads[kind])}


def drawn_long(rule):
    """The rest that is come near to where shares are drawn by and put in, again and again."""
    more = sum(rule[0])
    shares = [1.0 / len(rule)] * len(rule)
    for turn in range(3000):
        put = [sum(part * row[kind] for part, row in zip(shares, rule)) / more for kind in range(len(rule))]
        shares = [(one + other) / 2 for one, other in zip(shares, put)]
    return shares


class TestIsRest(UrnCase):

    def test_written_out(self):
        self.tells(True, is_rest, 2, SWAPPED, ((3, 5), (2, 5)))
        self.tells(False, is_rest, 2, SWAPPED, ((2, 5), (3, 5)))
        self.tells(False, is_rest, 2, SWAPPED, HALVES)
        self.tells(True, is_rest, 1, ((5,),), ((1, 1),))
        self.tells(True, is_rest, 4, square(4, 5), ((1, 4),) * 4)
        self.tells(False, is_rest, 4, square(4, 5), ((1, 2), (1, 6), (1, 6), (1, 6)))
        self.tells(True, is_rest, 3, EVEN_THREE, ((0, 1), (0, 1), (1, 1)))

    def test_where_there_are_many(self):
        for top in range(8):
            shares = (pair(Fraction(top, 7)), pair(Fraction(7 - top, 7)))
            self.tells(True, is_rest, 2, POLYA, shares)
        self.tells(True, is_rest, 4, OWN_FOUR, ((1, 2), (1, 4), (1, 8), (1, 8)))
        self.tells(True, is_rest, 4, OWN_FOUR, ((0, 1), (0, 1), (1, 1), (0, 1)))
        self.tells(True, is_rest, 4, EVEN_FOUR, ((1, 3), (0, 1), (0, 1), (2, 3)))
        self.tells(False, is_rest, 4, EVEN_FOUR, ((1, 3), (1, 3), (0, 1), (1, 3)))

    def test_against_all_small_shares(self):
        rules = [SWAPPED, POLYA, ((0, 5), (5, 0)), ((0, 1), (0, 1)), EVEN_THREE, square(3, 2)]
        rules += [((1, 2, 1), (0, 0, 4), (2, 2, 0)), ((0, 3, 0), (3, 0, 0), (0, 0, 3))]
        parts = sorted({Fraction(top, bottom) for bottom in range(1, 7) for top in range(-1, bottom + 2)})
        for rule in rules:
            for shares in itertools.product(parts, repeat=len(rule)):
                if abs(sum(shares) - 1) <= Fraction(1, 20):
                    told = tuple(map(pair, shares))
                    self.tells(exact_is_rest(rule, shares), is_rest, len(rule), rule, told)

    def test_each_kind_counts(self):
        # Among these some put in just as many of one kind, and too many of another one.
        rule = ((2, 1, 0), (1, 1, 1), (0, 1, 2))
        for shares in itertools.product([Fraction(top, 12) for top in range(13)], repeat=3):
            if sum(shares) == 1:
                self.tells(exact_is_rest(rule, shares), is_rest, 3, rule, tuple(map(pair, shares)))

    def test_numbers_of_thirty_figures(self):
        self.tells(True, is_rest, 2, POLYA, ((1, HUGE), (HUGE - 1, HUGE)))
        self.tells(False, is_rest, 2, POLYA, ((1, HUGE), (HUGE - 2, HUGE)))
        self.tells(False, is_rest, 2, SWAPPED, ((1, HUGE), (HUGE - 1, HUGE)))

    def test_not_in_lowest_terms(self):
        for shares in [((2, 4), (1, 2)), ((1, 2), (2, 4)), ((0, 2), (1, 1)), ((1, 1), (0, 7)), ((3, 3), (0, 1)),
                       ((0, 1), (2, 2)), ((2, 6), (4, 6)), ((HUGE, HUGE), (0, 1)), ((0, 1), (HUGE, HUGE))]:
            self.tells(False, is_rest, 2, POLYA, shares)

    def test_below_nought(self):
        for shares in [((-1, 2), (3, 2)), ((3, 2), (-1, 2)), ((2, 1), (-1, 1)), ((-1, 1), (2, 1))]:
            self.tells(False, is_rest, 2, POLYA, shares)

    def test_not_together_one(self):
        for shares in [((1, 2), (1, 3)), ((1, 2), (2, 3)), ((0, 1), (0, 1)), ((1, 1), (1, 1)), ((1, 5), (1, 5))]:
            self.tells(False, is_rest, 2, POLYA, shares)
        self.tells(False, is_rest, 1, ((5,),), ((1, 2),))
        self.tells(False, is_rest, 1, ((5,),), ((0, 1),))
        self.tells(False, is_rest, 1, ((5,),), ((2, 1),))

    def test_bottoms_of_nought_and_below(self):
        for shares in [((1, 0), (0, 1)), ((0, 0), (1, 1)), ((1, 1), (0, 0)), ((0, 1), (1, 0)), ((-1, -2), (1, 2)),
                       ((1, 2), (-1, -2)), ((0, -1), (1, 1)), ((1, 1), (0, -1)), ((-1, -1), (0, 1)), ((-1, 0), (1, 1)),
                       ((1, -2), (3, 2))]:
            self.tells(False, is_rest, 2, POLYA, shares)
        for shares in [((0, -1), (0, -1), (1, 1), (0, 1)), ((1, -2), (1, -2), (2, 1), (0, 1)),
                       ((0, 1), (1, 1), (0, -1), (0, -1)), ((-1, -2), (-1, -2), (0, 1), (0, 1))]:
            self.tells(False, is_rest, 4, OWN_FOUR, shares)

    def test_lists_in_the_place_of_tuples(self):
        for shares in [([1, 2], (1, 2)), ((1, 2), [1, 2]), ([1, 2], [1, 2]), [(1, 2), (1, 2)], [[1, 2], [1, 2]]]:
            self.tells(False, is_rest, 2, POLYA, shares)

    def test_truths(self):
        for shares in [((True, 2), (1, 2)), ((1, 2), (True, 2)), ((1, True), (0, 1)), ((1, 1), (0, True)),
                       ((False, 1), (1, 1)), ((True, True), (False, True)), ((0, 1), (True, 1)), (True, False),
                       ((1, 1), False), (False, (1, 1))]:
            self.tells(False, is_rest, 2, POLYA, shares)

    def test_one_part_more_or_fewer(self):
        for shares in [(), ((1, 1),), ((1, 2), (1, 4), (1, 4)), ((1, 2), (1, 2), (0, 1)), ((1, 2, 1), (1, 2)),
                       ((1, 2), (1,)), ((1,), (1,)), ((), ()), ((1, 2), ()), (1, 2), (1, 0), (0, 1), (1, 1),
                       ((1, 2), (1, 2, 2)), (((1, 2), (1, 2)),), ((1, 2),) * 200]:
            self.tells(False, is_rest, 2, POLYA, shares)
        self.tells(False, is_rest, 1, ((5,),), (1, 1))
        self.tells(False, is_rest, 1, ((5,),), ((1, 1), (0, 1)))

    def test_anything(self):
        for thing in no_tuples():
            self.tells(False, is_rest, 2, POLYA, thing)
            self.tells(False, is_rest, 1, ((1,),), thing)
        for part in wrong_parts():
            for thing in [(part,), (part, part), (part, (1, 2)), ((1, 2), part), ((part, 2), (1, 2)),
                          ((1, 2), (1, part)), ((1, 1), (part, 1)), ((1, part), (0, part))]:
                self.tells(False, is_rest, 2, POLYA, thing)


class TestRest(UrnCase):

    def test_written_out(self):
        self.tells(((3, 5), (2, 5)), rest, 2, SWAPPED)
        self.tells(((1, 1),), rest, 1, ((5,),))
        self.tells(((0, 1), (0, 1), (1, 1)), rest, 3, EVEN_THREE)
        self.tells(((1, 4),) * 4, rest, 4, square(4, 5))
        self.tells(((1, 2), (1, 2)), rest, 2, ((0, 1), (1, 0)))
        self.tells(((1, 1), (0, 1)), rest, 2, ((1, 0), (1, 0)))

    def test_kinds_drawn_in_turn(self):
        self.tells(((1, 4),) * 4, rest, 4, ((0, 1, 0, 0), (0, 0, 1, 0), (0, 0, 0, 1), (1, 0, 0, 0)))
        self.tells(((1, 4), (1, 2), (1, 4)), rest, 3, ((0, 2, 0), (1, 0, 1), (0, 2, 0)))

    def test_one_kind(self):
        for more in range(1, 6):
            self.tells(((1, 1),), rest, 1, ((more,),))

    def test_more_than_one(self):
        self.tells(None, rest, 2, POLYA)
        self.tells(None, rest, 4, OWN_FOUR)
        self.tells(None, rest, 4, EVEN_FOUR)
        self.tells(None, rest, 3, ((0, 3, 0), (3, 0, 0), (0, 0, 3)))
        self.tells(None, rest, 4, ((0, 5, 0, 0), (5, 0, 0, 0), (0, 0, 0, 5), (0, 0, 5, 0)))
        self.tells(None, rest, 3, ((1, 1, 0), (0, 2, 0), (0, 0, 2)))

    def test_against_all_even_rules_of_two_kinds(self):
        for together in range(1, 11):
            for rule in itertools.product(rows_of(2, together), repeat=2):
                leave, come = rule[0][1], rule[1][0]
                if leave + come == 0:
                    self.tells(None, rest, 2, rule)
                else:
                    exact = (Fraction(come, leave + come), Fraction(leave, leave + come))
                    self.tells(tuple(map(pair, exact)), rest, 2, rule)

    def test_just_one_where_the_kinds_hold_together(self):
        seen = []
        for kinds in (3, 4):
            for rule in even_rules(kinds, 400):
                told = rest(kinds, rule)
                alone = len(closed_sets(rule)) == 1
                self.assertEqual(told is not None, alone, rule)
                seen.append((kinds, alone))
                if alone:
                    self.assertTrue(exact_is_rest(rule, [Fraction(*part) for part in told]), rule)
                    self.tells(told, rest, kinds, rule)
                    self.tells(True, is_rest, kinds, rule, told)
        self.assertEqual(set(seen), {(3, True), (3, False), (4, True), (4, False)})

    def test_is_come_near_to_by_long_drawing(self):
        rules = [SWAPPED, EVEN_THREE, ((0, 1, 2), (3, 0, 0), (1, 1, 1))]
        rules += [((1, 2, 3, 4), (5, 5, 0, 0), (0, 5, 3, 2), (2, 2, 2, 4))]
        for rule in rules:
            for part, near in zip(rest(len(rule), rule), drawn_long(rule)):
                self.assertAlmostEqual(part[0] / part[1], near, places=6)


class TestRefusals(UrnCase):

    def test_numbers_of_kinds(self):
        for kinds in no_numbers() + [0, 5, -1, HUGE, -HUGE]:
            self.refuses(NoNumber, is_rest, kinds, POLYA, HALVES)
            self.refuses(NoNumber, rest, kinds, POLYA)

    def test_rules(self):
        for rule in no_rules_of_two():
            self.refuses(NoRule, is_rest, 2, rule, HALVES)
            self.refuses(NoRule, rest, 2, rule)
        for kinds in (1, 3, 4):
            self.refuses(NoRule, is_rest, kinds, POLYA, HALVES)
            self.refuses(NoRule, rest, kinds, POLYA)

    def test_not_even(self):
        for rule in [CROSSED, FOUR, ((0, 0), (0, 1)), ((1, 2), (1, 0)), ((1, 0, 0), (0, 1, 0), (0, 0, 2))]:
            self.assertIsNone(growth(len(rule), rule))
            self.refuses(NotEven, is_rest, len(rule), rule, ((1, 1),) + ((0, 1),) * (len(rule) - 1))
            self.refuses(NotEven, rest, len(rule), rule)

    def test_growth_of_nought(self):
        for kinds in (1, 2, 3, 4):
            self.refuses(NotEven, is_rest, kinds, square(kinds, 0), ((1, 1),) + ((0, 1),) * (kinds - 1))
            self.refuses(NotEven, rest, kinds, square(kinds, 0))

    def test_in_order(self):
        for rule, due in [([], NoRule), (((1, 0), (0, 6)), NoRule), (CROSSED, NotEven), (square(2, 0), NotEven)]:
            self.refuses_in_order(rest, [(2, 5, NoNumber), (POLYA, rule, due)])
            for thing in (HALVES, None, [], ((1, 2),)):
                self.refuses(due, is_rest, 2, rule, thing)
                self.refuses(NoNumber, is_rest, 0, rule, thing)


if __name__ == "__main__":
    unittest.main()
