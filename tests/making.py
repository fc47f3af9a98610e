"""Chains for the tests, made by chance that is the same with each run."""

import random

from tests.plain import as_claim, plain_always, plain_wanted, plain_words, sides
from tests.samples import small_formulas

FORMULAS = small_formulas(2) + [
    ("not", ("and", ("sign", 0), ("sign", 1))), ("or", ("not", ("sign", 2)), ("sign", 0)),
    ("then", ("or", ("sign", 0), ("sign", 2)), ("sign", 1)),
    ("and", ("then", ("sign", 0), ("sign", 1)), ("then", ("sign", 1), ("sign", 2))),
    ("or", ("and", ("sign", 2), ("sign", 0)), ("not", ("not", ("sign", 1)))),
]


class Maker:
    """Makes lines, each resting on lines ahead of it."""

    def __init__(self, seed):
        self.chance = random.Random(seed)
        self.lines = []

    def claim(self, most=3):
        """A claim that holds in every world."""
        while True:
            claim = tuple(
                [self.chance.choice(FORMULAS) for _ in range(self.chance.randrange(most + 1))]
                for _ in range(2)
            )
            if plain_always(claim):
                return claim

    def show(self, told_sides, steps, rule=None):
        """Make lines of a claim with these sides, and tell the number of its line."""
        known = [at for at, line in enumerate(self.lines) if sides(line[0]) == told_sides]
        if known and rule is None and self.chance.random() < 0.7:
            return self.chance.choice(known)
        if rule is None:
            rule = self.rule_for(told_sides, steps)
        asked = plain_wanted(told_sides, rule)
        numbers = [self.show(one, steps - 1) for one in asked]
        self.lines.append((self.written(told_sides), rule, numbers))
        return len(self.lines) - 1

    def rule_for(self, told_sides, steps):
        left, right = as_claim(told_sides)
        both = [f for f in left if f in right]
        if steps > 0 and self.chance.random() < 0.35 and plain_words((left, right)) < 40:
            return "lemma", self.chance.choice(FORMULAS)
        if steps > 0 and self.chance.random() < 0.3:
            return "more", self.less(left, right)
        if both:
            return "same", self.chance.choice(both)
        rules = [("left", f) for f in left if f[0] != "sign"]
        rules += [("right", f) for f in right if f[0] != "sign"]
        return self.chance.choice(rules)

    def less(self, left, right):
        """A claim that holds in every world, of formulas from these sides."""
        left, right = list(left), list(right)
        for side in (left, right):
            for f in list(side):
                side.remove(f)
                if self.chance.random() < 0.3 or not plain_always((left, right)):
                    side.append(f)
        return self.written((left, right))

    def written(self, told_sides):
        """A claim with these sides in some order, some of their formulas twice."""
        claim = []
        for side in as_claim(told_sides):
            side = side + [f for f in side if self.chance.random() < 0.15]
            self.chance.shuffle(side)
            claim.append(side)
        return tuple(claim)


def made_chain(seed, rule=None):
    """A chain, often with lemma lines, and with lines that the last one does not rest on.

    The last line's rule is this one, where one is named.
    """
    maker = Maker(seed)
    for _ in range(maker.chance.randrange(3)):
        maker.show(sides(maker.claim()), maker.chance.randrange(3))
    claim = sides(maker.claim())
    if rule == "lemma":
        rule = ("lemma", maker.chance.choice(FORMULAS))
    at = maker.show(claim, maker.chance.randrange(2, 5), rule)
    return maker.lines[:at + 1]
