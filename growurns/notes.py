"""Urns, rules and fractions as texts."""

from growurns.errors import BadNote, NoRule
from growurns.reckon import need_number
from growurns.urns import MOST_BALLS, MOST_KINDS, MOST_PUT_IN, is_rule, is_urn, need_rule, need_urn


def numbers_text(numbers):
    """The numbers with commas between."""
    return ",".join([str(number) for number in numbers])


def urn_text(urn):
    """The text of an urn."""
    need_urn(urn)
    return numbers_text(urn)


def rule_text(rule):
    """The text of a rule of any number of kinds."""
    if not isinstance(rule, tuple) or not 1 <= len(rule) <= MOST_KINDS:
        raise NoRule("not a rule of any number of kinds")
    need_rule(len(rule), rule)
    return "/".join([numbers_text(row) for row in rule])


def fraction_text(fraction):
    """The text of a fraction, its top alone where the bottom is 1."""
    top, bottom = fraction
    return str(top) if bottom == 1 else f"{top}/{bottom}"


def numbers_read(text, most):
    """The numbers from 0 to most that a text writes with commas between, None where it writes none."""
    # Reading by the texts themselves leaves no number a second way of being written.
    known = {str(number): number for number in range(most + 1)}
    numbers = [known.get(word) for word in text.split(",")]
    return None if None in numbers else tuple(numbers)


def need_text(thing):
    """Refuse what is no text."""
    if not isinstance(thing, str):
        raise BadNote("not a text")


def urn_read(text):
    """The urn that a text writes."""
    need_text(text)
    urn = numbers_read(text, MOST_BALLS)
    if not is_urn(urn):
        raise BadNote("not the text of an urn")
    return urn


def rule_read(kinds, text):
    """The rule of a number of kinds that a text writes."""
    need_number(kinds, 1, MOST_KINDS)
    need_text(text)
    rule = tuple([numbers_read(row, MOST_PUT_IN) for row in text.split("/")])
    if not is_rule(kinds, rule):
        raise BadNote(f"not the text of a rule of {kinds} kinds")
    return rule
