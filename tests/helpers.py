"""What the tests have in common: rules, wrong things, and how calls are looked at."""

import copy
import itertools
import unittest
from fractions import Fraction

from growurns import errors

REFUSALS = (
    errors.NoUrn, errors.NoRule, errors.NoKind, errors.NoBall, errors.NoDraws,
    errors.NoNumber, errors.NotEven, errors.NoCounts, errors.NotAlike, errors.BadNote,
)

HUGE = 10 ** 30 - 1


def square(kinds, number):
    """The rule that puts in the same number of every kind."""
    return tuple((number,) * kinds for row in range(kinds))


POLYA = ((1, 0), (0, 1))
CROSSED = ((0, 2), (3, 1))
FOUR = ((0, 1, 2, 3), (5, 4, 3, 2), (1, 1, 1, 1), (0, 0, 0, 0))
SWAPPED = ((1, 2), (3, 0))
EVEN_THREE = ((0, 1, 1), (2, 0, 0), (0, 0, 2))
EVEN_FOUR = ((5, 0, 0, 0), (0, 2, 2, 1), (1, 1, 1, 2), (0, 0, 0, 5))
OWN_ALONE = ((3, 0), (0, 1))
OWN_FOUR = ((5, 0, 0, 0), (0, 5, 0, 0), (0, 0, 5, 0), (0, 0, 0, 5))

# Urns and rules of one to four kinds: without a ball of some kind, rules that put
# in nothing, only the kind that was drawn, even ones and others.
COURSES = [
    ((5,), ((2,),)), ((20,), ((0,),)), ((1, 1), POLYA), ((4, 2), POLYA), ((0, 3), POLYA),
    ((1, 2), CROSSED), ((0, 3), CROSSED), ((7, 0), SWAPPED), ((20, 20), square(2, 5)),
    ((3, 4), square(2, 0)), ((2, 3), OWN_ALONE), ((1, 1), ((0, 0), (5, 0))),
    ((2, 0, 1), EVEN_THREE), ((0, 6, 3), ((2, 0, 0), (0, 2, 0), (0, 0, 2))),
    ((1, 0, 2, 4), FOUR), ((1, 2, 0, 4), OWN_FOUR), ((20, 19, 18, 17), EVEN_FOUR), ((0, 0, 0, 1), FOUR),
]


def no_tuples():
    """Things that are no tuples: no urns, no rules, no draws."""
    return [
        None, True, False, 0, 1, 3, -1, HUGE, -HUGE, "", "1", "1,2", "(1, 2)",
        [], [1], [1, 2], [[1, 0], [0, 1]], [(1, 0), (0, 1)], {}, {0: 1}, {0: 1, 1: 2},
        {(1, 0): (0, 1)}, [[[[[1]]]]], {"a": [{"b": (1, 2)}]},
    ]


def no_numbers():
    """Things that are no whole numbers at all."""
    return [
        None, True, False, "", "0", "1", "2", [], [1], (), (0,), (1,), (1, 2), {}, {1: 1},
        ((1, 0), (0, 1)), [[[[[1]]]]],
    ]


def wrong_parts():
    """Things that are no number from 0 on, for the places inside of tuples."""
    return [
        None, True, False, -1, -HUGE, HUGE, "", "1", [], [1], (), (1,), {}, {1: 1},
        ((((1,),),),),
    ]


def no_urns():
    """Things that are no urns, for every reason that the document has."""
    wrong = no_tuples()
    wrong += [(), (0,), (0, 0), (0, 0, 0), (0, 0, 0, 0), (1, 1, 1, 1, 1), (0, 0, 0, 0, 1)]
    wrong += [(21,), (-1,), (1, 21), (21, 1, 1, 1), (1, 1, 1, 21), (2, -1), ((1, 2),), ((1,), (2,))]
    wrong += [(1,) * 400]
    for part in wrong_parts():
        wrong += [(part,), (1, part), (part, 1), (1, 2, 3, part)]
    return wrong


def no_rules_of_two():
    """Things that are no rules of two kinds, for every reason that the document has."""
    wrong = no_tuples()
    wrong += [(), ((),), ((), ()), (1, 0), (1, 0, 0, 1), ((1, 0),), ((1, 0), (0, 1), (1, 1))]
    wrong += [((1, 0), (0,)), ((1,), (0, 1)), ((1, 0), (0, 1, 1)), ((1, 0, 0), (0, 1)), ((1,),)]
    wrong += [square(1, 1), square(3, 1), square(4, 1), ((1, 0), [0, 1]), ([1, 0], (0, 1))]
    wrong += [((1, 0), "01"), ((1, 0), None), ((1, 0), {0: 0, 1: 1}), (((1, 0), (0, 1)),)]
    wrong += [((1, 0), ((0, 1), (0, 1))), ((6, 0), (0, 1)), ((1, 0), (0, 6)), ((1, -1), (0, 1))]
    for part in wrong_parts() + [6]:
        wrong += [((part, 0), (0, 1)), ((1, part), (0, 1)), ((1, 0), (part, 1)), ((1, 0), (0, part))]
    return wrong


def no_draws_of_two():
    """Things that are no draws of two kinds."""
    wrong = no_tuples()
    wrong += [(2,), (0, 2), (2, 0), (-1,), (0, -1), (0,) * 21, (0, 1) * 11, ((0,),), ((0, 1), (1, 0))]
    for part in wrong_parts():
        wrong += [(part,), (0, part), (part, 0), (0,) * 19 + (part,)]
    return wrong


def no_kinds_of(kinds):
    """Things that are no kinds of an urn of so many kinds."""
    return no_numbers() + [kinds, kinds + 1, -1, -kinds, HUGE, -HUGE]


def no_numbers_up_to(most):
    """Things that are no whole numbers from 0 to most."""
    return no_numbers() + [most + 1, -1, HUGE, -HUGE]


def no_counts_of_two():
    """Things that are no counts of an urn of two kinds."""
    wrong = no_tuples()
    wrong += [(), (1,), (1, 2, 3), (1, 2, 3, 4), (0,), (0, 0, 0), (40,), (41, 0), (0, 41), (40, 1), (20, 21)]
    wrong += [(-1, 1), (1, -1), (-1, 41), (42, -1), ((1, 2),), ((1,), (2,)), (1,) * 400]
    for part in wrong_parts():
        wrong += [(part, 1), (1, part), (part,), (part, part), (1, 2, part)]
    return wrong


def no_urns_behind():
    """Things that are no last urns of two kinds."""
    wrong = no_tuples()
    wrong += [(), (0, 0), (1,), (1, 2, 3), (1, 2, 3, 4), (61, 1), (1, 61), (61, 61), (-1, 1), (1, -1)]
    wrong += [(0,), (0, 0, 0), ((1, 2),), ((1,), (2,)), (1, 1, 1, 1, 1)]
    for part in wrong_parts():
        wrong += [(part, 1), (1, part), (part,), (part, part)]
    return wrong


def no_texts():
    """Things that are no texts."""
    return [
        None, True, False, 0, 1, -1, 12, HUGE, -HUGE, [], ["1,2"], ["kept"], (), ("1,2",), ("kept",), (1, 2), POLYA,
        {}, {"1,2": "1,2"}, {"kept": None}, [[[[["1,2"]]]]], ("1", ",", "2"), ["urn", "a", "1,2"],
    ]


def no_urn_texts():
    """Texts that write no urn, for every reason that the document has."""
    wrong = ["", " ", ",", "1,", ",1", "1,,2", ",,", "0", "0,0", "0,0,0", "0,0,0,0", "1,1,1,1,1", "0,0,0,0,1"]
    wrong += ["01", "00", "1,02", "1,00", "001", "020", "+1", "-1", "-0", "+0", "1,-2", "1,+2", "1-2", "--1"]
    wrong += [" 1", "1 ", "1, 2", "1 ,2", " 1,2", "1,2 ", "1 2", "1  2", "1,2\n", "\n1,2", "1\t", "1,\t2"]
    wrong += ["21", "1,21", "21,1", "99", "100", "1,200", "9" * 30, "9" * 60, "1" * 5000]
    wrong += ["1/2", "1;2", "1.0", "1_0", "0x1", "1e1", "one", "(1,2)", "[1,2]", "None", "True", "1,a", "a,1", "1,2,"]
    # Figures, but not those from 0 to 9: a raised two, Arabic ones, a wide one, a roman one.
    wrong += ["\u00b2", "\u0661", "1,\u0662", "\uff11", "\uff11,2", "\u2160", "1\u0660"]
    return wrong


def no_rule_texts_of_two():
    """Texts that write no rule of two kinds, for every reason that the document has."""
    wrong = ["", " ", "/", "//", ",", ",/,", "1", "1,0", "1/0", "1,0/", "/0,1", "1,0//0,1", "1,0/0,1/", "/1,0/0,1"]
    wrong += ["1,0/0", "1/0,1", "1,0/0,1,1", "1,0,0/0,1", "1,0/0,1/1,1", "1,0,0/0,1,0/0,0,1", "1,0,0,1", "1/0/0/1"]
    wrong += ["1,,0/0,1", "1,/0,1", ",0/0,1", "1,0/,1", "1,0/0,", "1,0,/0,1", "1,0/,0,1"]
    wrong += ["6,0/0,1", "1,6/0,1", "1,0/6,1", "1,0/0,6", "10,0/0,1", "1,0/0,15", "1,0/0," + "9" * 40]
    wrong += ["01,0/0,1", "1,00/0,1", "1,0/0,05", "1,0/00,1", "-1,0/0,1", "1,-0/0,1", "1,0/+0,1", "1,0/0,+1"]
    wrong += [" 1,0/0,1", "1,0/0,1 ", "1,0 /0,1", "1,0/ 0,1", "1, 0/0,1", "1 0/0 1", "1,0 0,1"]
    wrong += ["1,0/0,1\n", "\n1,0/0,1", "1,0\n0,1"]
    wrong += ["1;0/0;1", "1,0|0,1", "1,0\\0,1", "1/0,0/1", "((1,0),(0,1))", "((1, 0), (0, 1))", "a,b/c,d", "1,0/0,x"]
    wrong += ["\u0661,0/0,1", "1,0/0,\u00b2", "1,0/0,\uff11", "1" * 5000]
    return wrong


def exact_course(urn, rule, draws):
    """The chance and the urn behind, by Python's own fractions."""
    so_far = Fraction(1)
    now = list(urn)
    for kind in draws:
        so_far *= Fraction(now[kind], sum(now))
        now = [balls + more for balls, more in zip(now, rule[kind])]
    return so_far, tuple(now) if so_far else None


def every_order(urn, rule, draws):
    """The tuples (draws, chance, urn behind) of all draws of so many, also of those without a chance."""
    orders = itertools.product(range(len(urn)), repeat=draws)
    return [(order, *exact_course(urn, rule, order)) for order in orders]


def pair(exact):
    """One of Python's own fractions, as the program tells it."""
    return (exact.numerator, exact.denominator)


class UrnCase(unittest.TestCase):

    def refuses(self, due, call, *arguments):
        """The call is refused with just the class that is due, and changes no argument."""
        before = copy.deepcopy(arguments)
        with self.assertRaises(errors.UrnError, msg=f"{call.__name__}{arguments!r}") as caught:
            call(*arguments)
        refusal = caught.exception
        self.assertIsInstance(refusal, ValueError)
        told = [known for known in REFUSALS if isinstance(refusal, known)]
        self.assertEqual(told, [due], f"{call.__name__}{arguments!r}")
        self.assertEqual(repr(arguments), repr(before))

    def tells(self, answer, call, *arguments):
        """The call tells the answer, kinds of values and all, and changes no argument."""
        before = copy.deepcopy(arguments)
        self.assertEqual(repr(call(*arguments)), repr(answer), f"{call.__name__}{arguments!r}")
        self.assertEqual(repr(arguments), repr(before))

    def refuses_urns_and_rules(self, call, *others):
        """What is no urn is refused, and what is no rule of two kinds; the others are right."""
        for urn in no_urns():
            self.refuses(errors.NoUrn, call, urn, POLYA, *others)
        for rule in no_rules_of_two():
            self.refuses(errors.NoRule, call, (1, 2), rule, *others)

    def refuses_in_order(self, call, places):
        """Whichever places are wrong together, the leftmost of them is refused.

        Each place is a tuple (right thing, wrong thing, refusal that is due).
        """
        for wrongs in itertools.product((False, True), repeat=len(places)):
            arguments = [place[1] if wrong else place[0] for place, wrong in zip(places, wrongs)]
            if True in wrongs:
                self.refuses(places[wrongs.index(True)][2], call, *arguments)
            else:
                call(*arguments)
