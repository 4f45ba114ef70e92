"""The refusals of the program, each made with a text."""


class UrnError(ValueError):
    """Any refusal of this program."""


class NoUrn(UrnError):
    """What was handed in as an urn is none, or nothing is kept by a name."""


class NoRule(UrnError):
    """What was handed in as a rule is no rule of as many kinds."""


class NoKind(UrnError):
    """What was handed in as a kind is none of the urn's kinds."""


class NoBall(UrnError):
    """The urn has no ball of the kind that is to be drawn."""


class NoDraws(UrnError):
    """What was handed in as draws are no draws of the urn's kinds."""


class NoNumber(UrnError):
    """What was handed in as a number is no whole number within its bounds."""


class NotEven(UrnError):
    """The rule is not even, or does not grow where it must."""


class NoCounts(UrnError):
    """What was handed in as counts are no counts of the urn."""


class NotAlike(UrnError):
    """Two urns have unlike numbers of kinds."""


class BadNote(UrnError):
    """A text or a line cannot be read."""
