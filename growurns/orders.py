"""Draws that have each kind as often as one another: orders of one another."""

from growurns.reckon import need_number, plus, times
from growurns.urns import chance_of, need_draws, need_urn_and_rule, share

MOST_ORDER_DRAWS = 4


def all_draws(kinds, many):
    """All draws of so many out of so many kinds, rising."""
    found = [()]
    for turn in range(many):
        found = [draws + (kind,) for draws in found for kind in range(kinds)]
    return found


def first_unlike(urn, rule, draws):
    """The first two orders of one another, of a number of draws, that have unlike chances, or None."""
    need_urn_and_rule(urn, rule)
    need_number(draws, 0, MOST_ORDER_DRAWS)
    unlike = []
    for order in all_draws(len(urn), draws):
        # Where any two orders are unlike, one of them is unlike the least one of
        # all, so the first two are the least one and the first that is unlike it.
        least = tuple(sorted(order))
        if chance_of(urn, rule, order) != chance_of(urn, rule, least):
            unlike.append((least, order))
    return min(unlike, default=None)


def orders_alike(urn, rule, draws):
    """Tell whether all orders of one another, of a number of draws, have the same chance."""
    return first_unlike(urn, rule, draws) is None


def urn_by_counts(urn, rule, counts):
    """The urn behind draws that had each kind so often, in whatever order."""
    put = [sum([many * row[kind] for many, row in zip(counts, rule)]) for kind in range(len(urn))]
    return tuple([balls + more for balls, more in zip(urn, put)])


def one_more(counts, kind):
    """The counts with one more of the kind."""
    return counts[:kind] + (counts[kind] + 1,) + counts[kind + 1:]


def next_chances_by_counts(chances, urn, rule, goal):
    """The chances by counts one draw later, of those counts that do not go beyond the goal."""
    later = {}
    for counts, so_far in chances.items():
        now = urn_by_counts(urn, rule, counts)
        for kind in range(len(urn)):
            if counts[kind] < goal[kind]:
                behind = one_more(counts, kind)
                part = times(so_far, share(now, kind))
                later[behind] = plus(later.get(behind, (0, 1)), part)
    return later


def chances_by_counts(urn, rule, goal, draws):
    """The chances by counts behind a number of draws, of those counts that do not go beyond the goal."""
    # The urn hangs on the counts alone, so all orders with the same counts go on alike.
    chances = {(0,) * len(urn): (1, 1)}
    for turn in range(draws):
        chances = next_chances_by_counts(chances, urn, rule, goal)
    return chances


def any_order(urn, rule, draws):
    """The chance that the kinds of the draws come, each as often, in whatever order."""
    need_urn_and_rule(urn, rule)
    need_draws(urn, draws)
    goal = tuple([draws.count(kind) for kind in range(len(urn))])
    return chances_by_counts(urn, rule, goal, len(draws))[goal]
