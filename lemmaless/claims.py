"""Claims: when two are alike, and where one holds."""

from lemmaless.errors import BadClaim
from lemmaless.formulas import MOST_WORDS, is_formula, spelled, truth, words


def is_claim(thing):
    """Whether thing is a claim: a tuple of two lists of formulas, of at most sixty words."""
    if not isinstance(thing, tuple) or len(thing) != 2:
        return False
    left, right = thing
    if not isinstance(left, list) or not isinstance(right, list):
        return False
    many = 0
    for f in left + right:
        if not is_formula(f):
            return False
        many += words(f)
        # A long list of large formulas need not be counted to its end.
        if many > MOST_WORDS:
            return False
    return True


def refuse_no_claim(thing):
    """Raise BadClaim where thing is no claim."""
    if not is_claim(thing):
        raise BadClaim("this is no claim")


def alike(one, other):
    """Whether the same formulas stand left in both claims, and the same ones right."""
    refuse_no_claim(one)
    refuse_no_claim(other)
    return _same_formulas(one[0], other[0]) and _same_formulas(one[1], other[1])


def _same_formulas(some, others):
    return {spelled(f) for f in some} == {spelled(f) for f in others}


def holds(claim, world):
    """Whether claim holds in world: not all of its left are true, or one of its right is."""
    refuse_no_claim(claim)
    left, right = claim
    return not all([truth(f, world) for f in left]) or any([truth(f, world) for f in right])
