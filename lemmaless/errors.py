"""The refusals of the program."""


class LineError(ValueError):
    """Any refusal."""


class BadFormula(LineError):
    """What was handed in as a formula is none."""


class BadClaim(LineError):
    """What was handed in as a claim is none."""


class BadChain(LineError):
    """What was handed in as a chain is none."""


class NoLemma(LineError):
    """The chain has no lemma line."""
