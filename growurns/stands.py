"""The urns that may stand behind some draws, and the ways that lead to them."""

from growurns.errors import NotEven, NoUrn
from growurns.reckon import fraction, need_number, plus, times
from growurns.urns import is_urn_up_to, need_rule, need_urn_and_rule, own_urn, put_in

MOST_STAND_DRAWS = 6
MOST_WAYS_DRAWS = 40
MOST_BALLS_BEHIND = 60


def urns_behind_one(urn, rule):
    """The tuples (how many balls lead to it, urn behind), one for each kind that can be drawn."""
    return [(balls, put_in(urn, rule, kind)) for kind, balls in enumerate(urn) if balls > 0]


def next_chances(chances, rule):
    """The chances by urns one draw later."""
    later = {}
    for urn, so_far in chances.items():
        for balls, behind in urns_behind_one(urn, rule):
            part = times(so_far, fraction(balls, sum(urn)))
            later[behind] = plus(later.get(behind, (0, 1)), part)
    return later


def stands(urn, rule, draws):
    """The rising list of tuples (urn, chance) behind a number of draws."""
    need_urn_and_rule(urn, rule)
    need_number(draws, 0, MOST_STAND_DRAWS)
    chances = {own_urn(urn): (1, 1)}
    for turn in range(draws):
        chances = next_chances(chances, rule)
    return sorted(chances.items())


def growth_of(rule):
    """How many balls each row of a rule comes to, None where they are unlike."""
    sums = [sum(row) for row in rule]
    return sums[0] if min(sums) == max(sums) else None


def growth(kinds, rule):
    """The growth of a rule of a number of kinds, None where it is not even."""
    need_rule(kinds, rule)
    return growth_of(rule)


def need_even(urn, rule):
    """Refuse what is no urn, then what is no rule of its kinds, then a rule that is not even."""
    need_urn_and_rule(urn, rule)
    if growth_of(rule) is None:
        raise NotEven("the rule is not even")


def ways(urn, rule, draws):
    """How many ways there are of a number of draws, each ball told apart."""
    need_even(urn, rule)
    need_number(draws, 0, MOST_WAYS_DRAWS)
    more = growth_of(rule)
    many = 1
    for turn in range(draws):
        many *= sum(urn) + turn * more
    return many


def next_ways(ways_by_urn, rule):
    """The numbers of ways by urns one draw later."""
    later = {}
    for urn, many in ways_by_urn.items():
        for balls, behind in urns_behind_one(urn, rule):
            later[behind] = later.get(behind, 0) + many * balls
    return later


def ways_to(urn, rule, draws, other):
    """How many of the ways of a number of draws lead to the other urn."""
    need_even(urn, rule)
    need_number(draws, 0, MOST_STAND_DRAWS)
    if not is_urn_up_to(other, MOST_BALLS_BEHIND) or len(other) != len(urn):
        raise NoUrn("not an urn of as many kinds")
    ways_by_urn = {urn: 1}
    for turn in range(draws):
        ways_by_urn = next_ways(ways_by_urn, rule)
    return ways_by_urn.get(other, 0)
