"""Rules: where they fit a claim, and which claims they want."""

from lemmaless.claims import each_once, is_claim, refuse_no_claim, stands_in, told_once
from lemmaless.formulas import is_formula


def wanted(claim, rule):
    """The list of the claims that rule wants, or None where it does not fit claim."""
    refuse_no_claim(claim)
    if not _fits(claim, rule):
        return None
    if rule[0] == "more":
        return [told_once(rule[1])]
    return led_to(claim, rule)


def _fits(claim, rule):
    if not isinstance(rule, tuple) or len(rule) != 2 or not isinstance(rule[0], str):
        return False
    word, told = rule
    if word == "more":
        return is_claim(told) and stands_in(told, claim)
    if not is_formula(told):
        return False
    left, right = claim
    if word == "same":
        return told in left and told in right
    if word == "left":
        return told in left and told[0] != "sign"
    if word == "right":
        return told in right and told[0] != "sign"
    return word == "lemma"


def led_to(claim, rule):
    """The claims that a rule that fits claim wants, where it is not more."""
    word, f = rule
    left, right = claim
    if word == "left":
        left = [g for g in left if g != f]
    if word == "right":
        right = [g for g in right if g != f]
    return [(each_once(left + to_left), each_once(right + to_right))
            for to_left, to_right in put_in(rule)]


def put_in(rule):
    """What a rule puts in left and right, for each claim that it wants, where it is not more."""
    word, f = rule
    if word == "left":
        return _put_in_by_left(f)
    if word == "right":
        return _put_in_by_right(f)
    if word == "lemma":
        return [([], [f]), ([f], [])]
    return []


def _put_in_by_left(f):
    word = f[0]
    if word == "not":
        return [([], [f[1]])]
    if word == "and":
        return [([f[1], f[2]], [])]
    if word == "or":
        return [([f[1]], []), ([f[2]], [])]
    return [([], [f[1]]), ([f[2]], [])]


def _put_in_by_right(f):
    word = f[0]
    if word == "not":
        return [([f[1]], [])]
    if word == "and":
        return [([], [f[1]]), ([], [f[2]])]
    if word == "or":
        return [([], [f[1], f[2]])]
    return [([f[1]], [f[2]])]
