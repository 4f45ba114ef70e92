"""What is to be expected of an urn behind some draws."""

from growurns.reckon import minus, times, total
from growurns.stands import stands
from growurns.urns import need_kind, need_urn_and_rule, share


def mean_balls(behind, kind):
    """How many balls of the kind the stands have on the mean."""
    return total([times((urn[kind], 1), so_likely) for urn, so_likely in behind])


def mean_square(behind, kind):
    """The mean, over the stands, of the square of how many balls of the kind there are."""
    return total([times((urn[kind] ** 2, 1), so_likely) for urn, so_likely in behind])


def mean_share(behind, kind):
    """The part of all balls that is of the kind, on the mean over the stands."""
    return total([times(share(urn, kind), so_likely) for urn, so_likely in behind])


def mean(urn, rule, draws):
    """How many balls of each kind there are on the mean behind a number of draws."""
    behind = stands(urn, rule, draws)
    return tuple([mean_balls(behind, kind) for kind in range(len(urn))])


def mean_shares(urn, rule, draws):
    """The part of all balls that is of each kind, on the mean behind a number of draws."""
    behind = stands(urn, rule, draws)
    return tuple([mean_share(behind, kind) for kind in range(len(urn))])


def is_fair(urn, rule):
    """Tell whether one draw leaves the shares of the urn, on the mean, as they are."""
    return mean_shares(urn, rule, 1) == mean_shares(urn, rule, 0)


def spread(urn, rule, kind, draws):
    """The mean of the square of how many balls of the kind there are, less the square of the mean."""
    need_urn_and_rule(urn, rule)
    need_kind(urn, kind)
    behind = stands(urn, rule, draws)
    middle = mean_balls(behind, kind)
    return minus(mean_square(behind, kind), times(middle, middle))
