"""Two urns that are drawn from in turn, each draw putting balls into the other urn."""

from growurns.errors import NotAlike
from growurns.means import mean_share
from growurns.reckon import need_number, plus, times
from growurns.urns import need_rule, need_urn, own_urn, put_in, share

MOST_TWO_DRAWS = 4


def need_two(one, other, rule, draws):
    """Refuse what is no urn, then unlike kinds, then what is no rule of them, then no number of draws."""
    need_urn(one)
    need_urn(other)
    if len(one) != len(other):
        raise NotAlike("the urns have unlike numbers of kinds")
    need_rule(len(one), rule)
    need_number(draws, 0, MOST_TWO_DRAWS)


def next_chances_of_two(chances, rule):
    """The chances one draw later, by tuples (urn that is drawn from next, the other one)."""
    later = {}
    for (drawn, fed), so_far in chances.items():
        for kind, balls in enumerate(drawn):
            if balls > 0:
                behind = (put_in(fed, rule, kind), drawn)
                part = times(so_far, share(drawn, kind))
                later[behind] = plus(later.get(behind, (0, 1)), part)
    return later


def two_stands(one, other, rule, draws):
    """The rising list of tuples (first, second, chance) behind a number of draws in turn."""
    need_two(one, other, rule, draws)
    chances = {(own_urn(one), own_urn(other)): (1, 1)}
    for turn in range(draws):
        chances = next_chances_of_two(chances, rule)
    # Behind an odd number of draws it is the second urn's turn, so it stands ahead.
    if draws % 2 == 1:
        return sorted([(first, second, so_likely) for (second, first), so_likely in chances.items()])
    return sorted([(first, second, so_likely) for (first, second), so_likely in chances.items()])


def two_shares(one, other, rule, draws):
    """The mean shares of the first urn and of the second one behind a number of draws in turn."""
    behind = two_stands(one, other, rule, draws)
    firsts = [(first, so_likely) for first, second, so_likely in behind]
    seconds = [(second, so_likely) for first, second, so_likely in behind]
    return (tuple([mean_share(firsts, kind) for kind in range(len(one))]),
            tuple([mean_share(seconds, kind) for kind in range(len(one))]))
