"""Simple urns: each draw puts in a number of balls of the kind that was drawn alone."""

from growurns.errors import NoCounts
from growurns.reckon import are_wholes, fraction, need_number
from growurns.urns import MOST_PUT_IN, need_urn

MOST_COUNTS = 40


def need_counts(urn, thing):
    """Refuse what are no counts of the urn."""
    if not are_wholes(thing, 0, MOST_COUNTS) or len(thing) != len(urn) or sum(thing) > MOST_COUNTS:
        raise NoCounts("not counts of the urn")


def need_simple(urn, more, counts):
    """Refuse what is no urn, then what is no more, then what are no counts of the urn."""
    need_urn(urn)
    need_number(more, 0, MOST_PUT_IN)
    need_counts(urn, counts)


def rising_product(start, step, many):
    """The product of so many numbers, from a start on by steps."""
    product = 1
    for turn in range(many):
        product *= start + turn * step
    return product


def orders_of(counts):
    """In how many orders draws that have these counts may come."""
    many = rising_product(1, 1, sum(counts))
    for number in counts:
        many //= rising_product(1, 1, number)
    return many


def counts_chance(urn, more, counts):
    """The chance that of as many draws as the counts come to just so many of each kind come."""
    need_simple(urn, more, counts)
    # Each order of the same draws has the same chance in a simple urn.
    leading = orders_of(counts)
    for balls, many in zip(urn, counts):
        leading *= rising_product(balls, more, many)
    return fraction(leading, rising_product(sum(urn), more, sum(counts)))


def next_shares(urn, more, counts):
    """The chances of each kind at the draw behind draws of these counts, None where they have no chance."""
    if counts_chance(urn, more, counts) == (0, 1):
        return None
    balls_now = [balls + more * many for balls, many in zip(urn, counts)]
    return tuple([fraction(balls, sum(balls_now)) for balls in balls_now])
