"""Claims: when two are alike, and where one holds."""

from lemmaless.errors import BadClaim
from lemmaless.formulas import MOST_WORDS, is_formula, spelled, truth, words


def is_claim(thing):
    """Whether thing is a claim: a tuple of two lists of formulas, of at most sixty words."""
    if not isinstance(thing, tuple) or len(thing) != 2:
        return False
    left, right = thing
    if not isinstance(left, list) or not isinstance(right, list):
        return False
    many = 0
    for f in left + right:
        if not is_formula(f):
            return False
        many += words(f)
        # A long list of large formulas need not be counted to its end.
        if many > MOST_WORDS:
            return False
    return True


def refuse_no_claim(thing):
    """Raise BadClaim where thing is no claim."""
    if not is_claim(thing):
        raise BadClaim("this is no claim")


def alike(one, other):
    """Whether the same formulas stand left in both claims, and the same ones right."""
    refuse_no_claim(one)
    refuse_no_claim(other)
    return claim_spelled(one) == claim_spelled(other)


def claim_spelled(claim):
    """A text that this claim and those alike to it have, and no others."""
    left, right = claim
    return f"{_side_spelled(left)}|{_side_spelled(right)}"


def _side_spelled(side):
    return ";".join(sorted({spelled(f) for f in side}))


def holds(claim, world):
    """Whether claim holds in world: not all of its left are true, or one of its right is."""
    refuse_no_claim(claim)
    left, right = claim
    return not all([truth(f, world) for f in left]) or any([truth(f, world) for f in right])


def stands_in(one, other):
    """Whether what stands left in one claim stands left in the other, and right likewise."""
    return _all_stand_in(one[0], other[0]) and _all_stand_in(one[1], other[1])


def _all_stand_in(some, side):
    return all([f in side for f in some])


def told_once(claim):
    """A new claim alike to this one, each formula once on a side."""
    left, right = claim
    return each_once(left), each_once(right)


def each_once(side):
    """A new list of the formulas of side, each once, where it stands first."""
    told = []
    for f in side:
        if f not in told:
            told.append(f)
    return told
