"""A desk that keeps urns by names and answers lines."""

from growurns.errors import BadNote, NoUrn
from growurns.means import is_fair, mean
from growurns.notes import fraction_text, need_text, rule_read, urn_read, urn_text
from growurns.stands import stands
from growurns.urns import MOST_KINDS, after, chance, is_urn

MOST_LETTERS = 8
FIGURES = "0123456789"

# What stands behind the first word of a line; a name that must be kept comes first.
LINES = {
    "urn": ("name", "urn"),
    "draw": ("name", "rule", "figure", "name"),
    "kept": (),
    "show": ("name",),
    "chance": ("name", "figure"),
    "stands": ("name", "rule", "figure"),
    "mean": ("name", "rule", "figure"),
    "fair": ("name", "rule"),
}


def name_read(word):
    """The name that a word is."""
    if not 1 <= len(word) <= MOST_LETTERS or not all(["a" <= letter <= "z" for letter in word]):
        raise BadNote("not a name")
    return word


def figure_read(word):
    """The number that a word of a single figure writes."""
    if len(word) != 1 or word not in FIGURES:
        raise BadNote("not a single figure")
    return FIGURES.index(word)


def any_rule_read(word):
    """The rule that a word writes, of as many kinds as it has rows."""
    rows = word.count("/") + 1
    if rows > MOST_KINDS:
        raise BadNote("not a rule of any number of kinds")
    return rule_read(rows, word)


def word_read(form, word):
    """What a word of a line is or writes, by its form."""
    if form == "name":
        return name_read(word)
    if form == "urn":
        return urn_read(word)
    if form == "rule":
        return any_rule_read(word)
    return figure_read(word)


def line_read(line):
    """The first word of a line, and the list of what stands behind it."""
    need_text(line)
    first, *others = line.split(" ")
    if first not in LINES or len(others) != len(LINES[first]):
        raise BadNote("not a line")
    return (first, [word_read(form, word) for form, word in zip(LINES[first], others)])


def answer(asked, urn, others):
    """The answer about an urn to a line that keeps nothing, by its first word and what stands behind the name."""
    if asked == "show":
        return urn_text(urn)
    if asked == "chance":
        return fraction_text(chance(urn, others[0]))
    if asked == "stands":
        return str(len(stands(urn, others[0], others[1])))
    if asked == "mean":
        return " ".join([fraction_text(middle) for middle in mean(urn, others[0], others[1])])
    return "yes" if is_fair(urn, others[0]) else "no"


class Desk:
    """Keeps urns by names."""

    def __init__(self):
        self.urns_by_name = {}

    def say(self, line):
        """The answer to a line."""
        asked, others = line_read(line)
        if asked == "kept":
            return " ".join(sorted(self.urns_by_name))
        if asked == "urn":
            return self.keep(others[0], others[1])
        urn = self.urn_by_name(others[0])
        if asked == "draw":
            return self.keep(others[3], after(urn, others[1], others[2]))
        return answer(asked, urn, others[1:])

    def urn_by_name(self, name):
        """The urn that is kept by a name."""
        if name not in self.urns_by_name:
            raise NoUrn("nothing is kept by this name")
        return self.urns_by_name[name]

    def keep(self, name, urn):
        """Keep an urn by a name, unless a draw has made it too full to be handed in."""
        if not is_urn(urn):
            return "full"
        self.urns_by_name[name] = urn
        return "ok"
