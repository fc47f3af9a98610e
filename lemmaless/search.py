"""Deciding: a chain of a claim by same, left and right alone, or a world against it."""

from lemmaless.claims import claim_spelled, refuse_no_claim, stands_in, told_once
from lemmaless.formulas import words
from lemmaless.rules import led_to, put_in


class Proof:
    """A rule, the proofs of what it wants, and the claim that they show together."""

    def __init__(self, rule, inner, claim):
        self.rule = rule
        self.inner = inner
        self.claim = claim


def decided(claim):
    """("chain", lines), the lines showing claim, or ("world", world), one where it fails."""
    refuse_no_claim(claim)
    start = told_once(claim)
    word, found = _searched(start)
    if word == "world":
        return word, found
    lines = []
    _write_lines(start, found, lines, {})
    return "chain", lines


def _searched(claim):
    """("proof", a proof of what stands in claim), or ("world", a world where claim fails)."""
    rule = _next_rule(claim)
    if rule is None:
        return "world", [f[1] for f in claim[0]]
    inner = []
    for asked in led_to(claim, rule):
        word, found = _searched(asked)
        # A proof that does without what the rule puts in needs neither the rule nor the rest.
        # Else each formula that plays no part could double the search.
        if word == "world" or stands_in(found.claim, claim):
            return word, found
        inner.append(found)
    return "proof", Proof(rule, inner, _rested_on(claim, rule, inner))


def _next_rule(claim):
    """The rule to go on with, or None where claim has signs alone, and none on both sides."""
    left, right = claim
    for f in left:
        if f in right:
            return "same", f
    rules = [("left", f) for f in left if f[0] != "sign"]
    rules = rules + [("right", f) for f in right if f[0] != "sign"]
    if not rules:
        return None
    # The fewer ways stay open and the more words go, the less there is to search.
    return min(rules, key=lambda rule: (_many_open(claim, rule), -words(rule[1])))


def _many_open(claim, rule):
    """How many of the claims that rule wants are not shown by same at once."""
    left, right = claim
    many = 0
    for to_left, to_right in put_in(rule):
        if not any([f in right for f in to_left]) and not any([f in left for f in to_right]):
            many += 1
    return many


def _rested_on(claim, rule, inner):
    """What of claim its rule and the proofs of what the rule wants rest on, as a claim."""
    word, told = rule
    left = [f for f in claim[0] if any([f in proof.claim[0] for proof in inner])]
    right = [f for f in claim[1] if any([f in proof.claim[1] for proof in inner])]
    if word != "right":
        left.append(told)
    if word != "left":
        right.append(told)
    return left, right


def _write_lines(claim, proof, lines, numbers):
    """Put lines that show claim by proof behind lines, and tell the number of claim's line.

    The numbers of all lines stand in numbers, by the texts of their claims.
    """
    text = claim_spelled(claim)
    if text not in numbers:
        told = []
        for asked, inner in zip(led_to(claim, proof.rule), proof.inner):
            told.append(_write_lines(asked, inner, lines, numbers))
        numbers[text] = len(lines)
        lines.append((claim, proof.rule, told))
    return numbers[text]
