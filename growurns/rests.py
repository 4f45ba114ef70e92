"""Rests: shares that an even rule, drawn by them, puts in just so on the mean."""

from growurns.errors import NotEven
from growurns.reckon import fraction, is_fraction, times, total
from growurns.stands import growth_of
from growurns.urns import need_rule


def need_growing(kinds, rule):
    """Refuse what is no rule of a number of kinds, then a rule that is not even or does not grow."""
    need_rule(kinds, rule)
    if growth_of(rule) in (None, 0):
        raise NotEven("the rule is not even, or its growth is 0")


def are_shares(kinds, thing):
    """Tell whether a thing is a tuple of fractions, one for each kind, none below 0, together 1."""
    if not isinstance(thing, tuple) or len(thing) != kinds:
        return False
    if not all([is_fraction(part) and part[0] >= 0 for part in thing]):
        return False
    return total(thing) == (1, 1)


def put_in_on_the_mean(rule, shares, kind):
    """How many balls of the kind a draw by the shares puts in on the mean."""
    return total([times(part, (row[kind], 1)) for part, row in zip(shares, rule)])


def is_rest(kinds, rule, thing):
    """Tell whether a thing is a rest of the rule."""
    need_growing(kinds, rule)
    if not are_shares(kinds, thing):
        return False
    more = (growth_of(rule), 1)
    return all([put_in_on_the_mean(rule, thing, kind) == times(more, thing[kind]) for kind in range(kinds)])


def left_out(line, at):
    """A list or tuple without what stands at a place."""
    return line[:at] + line[at + 1:]


def determinant(table):
    """The determinant of a square table, 1 of an empty one."""
    if not table:
        return 1
    found = 0
    sign = 1
    for at, number in enumerate(table[0]):
        found += sign * number * determinant([left_out(row, at) for row in table[1:]])
        sign = -sign
    return found


def balance(rule):
    """The table whose rows, each taken as often as a rest has its kind, come to noughts."""
    more = growth_of(rule)
    return [[(more if kind == drawn else 0) - number for kind, number in enumerate(row)]
            for drawn, row in enumerate(rule)]


def rest(kinds, rule):
    """The rest of the rule where there is just one, None where there are more."""
    need_growing(kinds, rule)
    table = balance(rule)
    # By the matrix-tree theorem a kind weighs as much in the rest as the determinant
    # of the table without its row and column, from 0 on. All of these are 0 just
    # where several sets of kinds keep to themselves, each with a rest of its own.
    weights = [determinant([left_out(row, kind) for row in left_out(table, kind)]) for kind in range(kinds)]
    if sum(weights) == 0:
        return None
    return tuple([fraction(weight, sum(weights)) for weight in weights])
