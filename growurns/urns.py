"""Urns, the rules by which more is put back, and draws."""

from growurns.errors import NoBall, NoDraws, NoKind, NoRule, NoUrn
from growurns.reckon import are_wholes, fraction, is_whole, need_number, times

MOST_KINDS = 4
MOST_BALLS = 20
MOST_PUT_IN = 5
MOST_DRAWS = 20


def is_urn(thing):
    """Tell whether a thing is an urn."""
    return is_urn_up_to(thing, MOST_BALLS)


def is_urn_up_to(thing, most):
    """Tell whether a thing is an urn, were its numbers from 0 to most."""
    if not are_wholes(thing, 0, most):
        return False
    return 1 <= len(thing) <= MOST_KINDS and sum(thing) > 0


def is_rule(kinds, thing):
    """Tell whether a thing is a rule of a number of kinds."""
    need_number(kinds, 1, MOST_KINDS)
    if not isinstance(thing, tuple) or len(thing) != kinds:
        return False
    return all([are_wholes(row, 0, MOST_PUT_IN) and len(row) == kinds for row in thing])


def need_urn(thing):
    """Refuse what is no urn."""
    if not is_urn(thing):
        raise NoUrn("not an urn")


def need_rule(kinds, thing):
    """Refuse what is no rule of a number of kinds."""
    if not is_rule(kinds, thing):
        raise NoRule(f"not a rule of {kinds} kinds")


def need_urn_and_rule(urn, rule):
    """Refuse what is no urn, then what is no rule of its kinds."""
    need_urn(urn)
    need_rule(len(urn), rule)


def need_kind(urn, thing):
    """Refuse what is none of the urn's kinds."""
    if not is_whole(thing, 0, len(urn) - 1):
        raise NoKind("not a kind of the urn")


def need_draws(urn, thing):
    """Refuse what are no draws of the urn's kinds."""
    if not are_wholes(thing, 0, len(urn) - 1) or len(thing) > MOST_DRAWS:
        raise NoDraws("not draws of the kinds of the urn")


def share(urn, kind):
    """The chance that a ball of the kind is drawn; the urn may have outgrown its bounds."""
    return fraction(urn[kind], sum(urn))


def put_in(urn, rule, kind):
    """The urn behind a draw of the kind; the urn may have outgrown its bounds."""
    return tuple([balls + more for balls, more in zip(urn, rule[kind])])


def own_urn(urn):
    """The same urn as a tuple of its own: nothing that is told is one that was handed in."""
    return tuple(list(urn))


def chance(urn, kind):
    """The chance that a ball of the kind is drawn."""
    need_urn(urn)
    need_kind(urn, kind)
    return share(urn, kind)


def after(urn, rule, kind):
    """The urn behind a draw of the kind by the rule."""
    need_urn_and_rule(urn, rule)
    need_kind(urn, kind)
    if urn[kind] == 0:
        raise NoBall("the urn has no ball of the kind")
    return put_in(urn, rule, kind)


def follow(urn, rule, draws):
    """The chance of the draws in this order, and the urn behind them, None where that is 0."""
    need_urn_and_rule(urn, rule)
    need_draws(urn, draws)
    so_far = (1, 1)
    now = own_urn(urn)
    for kind in draws:
        if now[kind] == 0:
            return ((0, 1), None)
        so_far = times(so_far, share(now, kind))
        now = put_in(now, rule, kind)
    return (so_far, now)


def chance_of(urn, rule, draws):
    """The chance that just these draws come in this order."""
    return follow(urn, rule, draws)[0]


def urn_behind(urn, rule, draws):
    """The urn behind the draws, None where they have no chance."""
    return follow(urn, rule, draws)[1]
