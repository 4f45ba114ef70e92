import itertools
import re
import unittest

from growurns.errors import BadNote, NoNumber, NoRule, NoUrn
from growurns.means import mean, mean_shares
from growurns.notes import fraction_text, rule_read, rule_text, urn_read, urn_text
from growurns.stands import ways
from tests.helpers import COURSES, CROSSED, EVEN_FOUR, FOUR, HUGE, POLYA, UrnCase, no_numbers, no_rule_texts_of_two
from tests.helpers import no_rules_of_two, no_texts, no_urn_texts, no_urns, square

NUMBER = "(?:0|[1-9][0-9]*)"
SIGNS = "0123456789,/ +-.aA~"


def some_urns():
    """All urns of one and of two kinds, and some of more."""
    numbers = range(21)
    found = [(number,) for number in numbers] + list(itertools.product(numbers, repeat=2))
    found += itertools.product((0, 9, 10, 20), repeat=3)
    found += itertools.product((0, 1, 19), repeat=4)
    return [urn for urn in found if sum(urn) > 0]


def some_rules():
    """The tuples (kinds, rule) of all rules of one and of two kinds, and of some of more."""
    found = [(1, ((number,),)) for number in range(6)]
    found += [(2, (numbers[:2], numbers[2:])) for numbers in itertools.product(range(6), repeat=4)]
    found += [(len(rule), rule) for urn, rule in COURSES]
    found += [(kinds, square(kinds, number)) for kinds in (3, 4) for number in range(6)]
    return found


def exact_urn(text):
    """The urn that a text writes, or None, by a pattern."""
    if not re.fullmatch(f"{NUMBER}(?:,{NUMBER}){{0,3}}", text):
        return None
    urn = tuple(int(part) for part in text.split(","))
    return urn if max(urn) <= 20 and max(urn) > 0 else None


def exact_rule(kinds, text):
    """The rule of so many kinds that a text writes, or None, by a pattern."""
    row = f"[0-5](?:,[0-5]){{{kinds - 1}}}"
    if not re.fullmatch(f"{row}(?:/{row}){{{kinds - 1}}}", text):
        return None
    return tuple(tuple(int(part) for part in line.split(",")) for line in text.split("/"))


def texts_near(text):
    """The text itself, and all texts that are made of it by one sign more, fewer or other."""
    near = [text]
    for at in range(len(text) + 1):
        near += [text[:at] + text[at + 1:]]
        near += [text[:at] + sign + text[at:] for sign in SIGNS]
        near += [text[:at] + sign + text[at + 1:] for sign in SIGNS]
    return near


class TestUrnText(UrnCase):

    def test_written_out(self):
        for urn, text in [((1,), "1"), ((20,), "20"), ((1, 2), "1,2"), ((0, 10), "0,10"), ((20, 0, 0), "20,0,0"),
                          ((1, 0, 12, 9), "1,0,12,9")]:
            self.tells(text, urn_text, urn)
            self.tells(urn, urn_read, text)

    def test_is_read_as_the_same(self):
        for urn in some_urns():
            self.tells(urn, urn_read, urn_text(urn))

    def test_no_two_urns_have_one_text(self):
        texts = [urn_text(urn) for urn in some_urns()]
        self.assertEqual(len(set(texts)), len(texts))

    def test_what_is_no_urn(self):
        for thing in no_urns():
            self.refuses(NoUrn, urn_text, thing)


class TestUrnRead(UrnCase):

    def check(self, text):
        urn = exact_urn(text)
        if urn is None:
            self.refuses(BadNote, urn_read, text)
        else:
            self.tells(urn, urn_read, text)

    def test_other_texts(self):
        for text in no_urn_texts():
            self.refuses(BadNote, urn_read, text)

    def test_texts_of_rules(self):
        for kinds in (2, 3, 4):
            self.refuses(BadNote, urn_read, rule_text(square(kinds, 1)))

    def test_no_texts(self):
        for thing in no_texts():
            self.refuses(BadNote, urn_read, thing)

    def test_each_number(self):
        for number in range(-30, 230):
            for text in [f"{number}", f"{number},1", f"1,2,3,{number}"]:
                self.check(text)

    def test_every_short_text(self):
        for length in range(5):
            for signs in itertools.product("012, -/", repeat=length):
                self.check("".join(signs))

    def test_texts_near_those_of_urns(self):
        for text in ["5", "20", "1,2", "0,20", "10,0,3", "0,0,0,1", "20,20,20,20"]:
            for near in texts_near(text):
                self.check(near)


class TestRuleText(UrnCase):

    def test_written_out(self):
        for kinds, rule, text in [(1, ((3,),), "3"), (1, ((0,),), "0"), (2, POLYA, "1,0/0,1"), (2, CROSSED, "0,2/3,1"),
                                  (3, square(3, 5), "5,5,5/5,5,5/5,5,5"), (4, FOUR, "0,1,2,3/5,4,3,2/1,1,1,1/0,0,0,0")]:
            self.tells(text, rule_text, rule)
            self.tells(rule, rule_read, kinds, text)

    def test_is_read_as_the_same(self):
        for kinds, rule in some_rules():
            self.tells(rule, rule_read, kinds, rule_text(rule))

    def test_what_is_no_rule(self):
        for thing in no_rules_of_two():
            if thing not in (((1,),), square(1, 1), square(3, 1), square(4, 1)):
                self.refuses(NoRule, rule_text, thing)
        self.refuses(NoRule, rule_text, square(5, 1))


class TestRuleRead(UrnCase):

    def check(self, kinds, text):
        rule = exact_rule(kinds, text)
        if rule is None:
            self.refuses(BadNote, rule_read, kinds, text)
        else:
            self.tells(rule, rule_read, kinds, text)

    def test_other_texts(self):
        for text in no_rule_texts_of_two():
            self.refuses(BadNote, rule_read, 2, text)

    def test_rules_of_other_numbers_of_kinds(self):
        for kinds in (1, 2, 3, 4):
            for others in (1, 2, 3, 4, 5):
                text = "/".join([",".join(["1"] * others)] * others)
                self.check(kinds, text)
                self.assertEqual(exact_rule(kinds, text) is None, kinds != others)

    def test_too_many_or_too_few_numbers_or_rows(self):
        for kinds in (1, 2, 3, 4):
            for rows in range(1, 6):
                for width in range(1, 6):
                    self.check(kinds, "/".join([",".join(["2"] * width)] * rows))

    def test_no_texts(self):
        for kinds in (1, 2, 3, 4):
            for thing in no_texts():
                self.refuses(BadNote, rule_read, kinds, thing)

    def test_texts_near_those_of_rules(self):
        for kinds, text in [(1, "0"), (1, "5"), (2, "1,0/0,1"), (2, "5,5/5,5"), (3, "0,1,2/3,4,5/0,0,0"),
                            (4, "0,1,2,3/5,4,3,2/1,1,1,1/0,0,0,0")]:
            for near in texts_near(text):
                self.check(kinds, near)

    def test_every_short_text_of_one_kind(self):
        for length in range(4):
            for signs in itertools.product("056, -/", repeat=length):
                self.check(1, "".join(signs))

    def test_the_number_of_kinds_is_refused_ahead_of_anything(self):
        for kinds in no_numbers() + [0, 5, -1, HUGE, -HUGE]:
            for text in ["1,0/0,1", "1", "", "x", None, POLYA, []]:
                self.refuses(NoNumber, rule_read, kinds, text)


class TestFractionText(UrnCase):

    def test_written_out(self):
        for fraction, text in [((1, 2), "1/2"), ((10, 3), "10/3"), ((3, 10), "3/10"), ((163, 35), "163/35")]:
            self.tells(text, fraction_text, fraction)

    def test_bottoms_of_one_are_left_out(self):
        for fraction, text in [((0, 1), "0"), ((1, 1), "1"), ((7, 1), "7"), ((20, 1), "20"), ((HUGE, 1), "9" * 30)]:
            self.tells(text, fraction_text, fraction)

    def test_bottoms_that_begin_with_one(self):
        for fraction, text in [((1, 10), "1/10"), ((1, 11), "1/11"), ((3, 100), "3/100")]:
            self.tells(text, fraction_text, fraction)

    def test_below_nought(self):
        self.tells("-1/2", fraction_text, (-1, 2))
        self.tells("-3", fraction_text, (-3, 1))

    def test_many_figures(self):
        self.tells("1/" + "9" * 30, fraction_text, (1, HUGE))
        self.tells("9" * 30 + "/" + "1" + "0" * 30, fraction_text, (HUGE, HUGE + 1))
        many = ways((20, 20, 20, 20), EVEN_FOUR, 40)
        self.tells(f"{many}/7", fraction_text, (many, 7))

    def test_of_what_is_told(self):
        for urn, rule in COURSES:
            for told in mean(urn, rule, 6) + mean_shares(urn, rule, 6):
                text = fraction_text(told)
                top, stroke, bottom = text.partition("/")
                self.assertEqual((int(top), int(bottom or 1)), told)
                self.assertEqual(stroke == "", told[1] == 1)


if __name__ == "__main__":
    unittest.main()
