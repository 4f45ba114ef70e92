"""How long a kind, or each kind, has to be waited for."""

from growurns.orders import chances_by_counts
from growurns.reckon import minus, need_number, total
from growurns.stands import MOST_STAND_DRAWS
from growurns.urns import need_kind, need_urn_and_rule


def need_wait(urn, rule, kind, draws):
    """Refuse what is no urn, no rule of its kinds, none of its kinds, no number of draws, in this order."""
    need_urn_and_rule(urn, rule)
    need_kind(urn, kind)
    need_number(draws, 0, MOST_STAND_DRAWS)


def chance_without(urn, rule, kind, draws):
    """The chance that none of a number of draws is of the kind."""
    goal = tuple([0 if other == kind else draws for other in range(len(urn))])
    return total(list(chances_by_counts(urn, rule, goal, draws).values()))


def first_drawn(urn, rule, kind, draws):
    """The chances that the kind is drawn for the first time at the first draw, the second, and so on."""
    need_wait(urn, rule, kind, draws)
    waiting = [chance_without(urn, rule, kind, many) for many in range(draws + 1)]
    return [minus(ahead, behind) for ahead, behind in zip(waiting, waiting[1:])]


def not_drawn(urn, rule, kind, draws):
    """The chance that the kind is not drawn by a number of draws."""
    need_wait(urn, rule, kind, draws)
    return chance_without(urn, rule, kind, draws)


def has_all(counts, urn):
    """Tell whether the counts have each kind of which the urn has a ball."""
    return all([many > 0 for many, balls in zip(counts, urn) if balls > 0])


def all_drawn(urn, rule, draws):
    """The chance that each kind of which the urn had a ball at first is drawn by a number of draws."""
    need_urn_and_rule(urn, rule)
    need_number(draws, 0, MOST_STAND_DRAWS)
    chances = chances_by_counts(urn, rule, (draws,) * len(urn), draws)
    return total([so_likely for counts, so_likely in chances.items() if has_all(counts, urn)])
