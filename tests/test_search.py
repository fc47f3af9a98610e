import copy
import random
import unittest
from itertools import combinations_with_replacement, product

from lemmaless.chains import lemma_lines, wrong_line
from lemmaless.claims import alike, holds
from lemmaless.errors import BadClaim
from lemmaless.search import decided
from tests.cases import LEMMALESS, LineCase, spoil
from tests.plain import plain_always, plain_holds, plain_parts, plain_words
from tests.samples import (
    A, AND, B, C, D, NOT_A, NO_CLAIMS, NO_FORMULAS, OR, THEN, TWO_WORDS, chains_around,
    claims_around, full, nots, small_formulas, too_long,
)


def sign(n):
    return ("sign", n)


def joined(word, formulas):
    """One formula of several, the first ones standing deepest."""
    f = formulas[0]
    for g in formulas[1:]:
        f = (word, f, g)
    return f


def some_formula(chance, words, signs):
    """A formula of so many words over so many signs."""
    if words == 1:
        return sign(chance.randrange(signs))
    word = "not" if words == 2 else chance.choice(("not",) + TWO_WORDS)
    if word == "not":
        return ("not", some_formula(chance, words - 1, signs))
    first = chance.randrange(1, words - 1)
    return (word, some_formula(chance, first, signs),
            some_formula(chance, words - 1 - first, signs))


def some_claim(chance, words, most, signs):
    """A claim of so many words, its formulas having at most so many."""
    claim = ([], [])
    while words > 0:
        many = min(words, chance.randrange(1, most + 1))
        claim[chance.randrange(2)].append(some_formula(chance, many, signs))
        words -= many
    return claim


class DecidedCase(LineCase):
    def decide(self, claim):
        """The word that is told of a claim, what stands behind it being right."""
        kept = copy.deepcopy(claim)
        told = decided(claim)
        self.assertEqual(claim, kept)
        self.assertIs(told.__class__, tuple)
        word, found = told
        self.assertIs(found.__class__, list)
        self.assert_new_lists(told, claim)
        if word == "chain":
            self.assert_chain(found, claim, LEMMALESS)
            for one, _, _ in found:
                self.assert_told_once(one)
        else:
            self.assertEqual(word, "world")
            for n in found:
                self.assertIs(n.__class__, int)
            self.assertEqual(len(found), len(set(found)))
            self.assertFalse(plain_holds(claim, found), (claim, found))
        return word

    def shown(self, *claims):
        for claim in claims:
            self.assertEqual(self.decide(claim), "chain", claim)

    def failing(self, *claims):
        for claim in claims:
            self.assertEqual(self.decide(claim), "world", claim)


class DecidedTest(DecidedCase):
    def test_the_empty_claim(self):
        self.failing(([], []))

    def test_an_empty_side(self):
        self.failing(([A], []), ([], [A]), ([A, B], []), ([], [A, B]), ([OR], []), ([], [AND]))
        self.failing(([NOT_A], []), ([], [NOT_A]), ([THEN], []), ([], [THEN]))
        self.shown(([A, NOT_A], []), ([], [A, NOT_A]), ([("and", A, NOT_A)], []))
        self.shown(([], [("or", A, NOT_A)]), ([], [("then", A, A)]))
        self.shown(([("not", ("or", NOT_A, A))], []))

    def test_signs_alone(self):
        self.shown(([A], [A]), ([A, B], [C, B]), ([D], [A, D]))
        self.failing(([A], [B]), ([A, B], [C, D]))

    def test_each_kind_on_the_left(self):
        self.shown(([NOT_A, A], [B]), ([AND], [A]), ([AND], [B]), ([OR], [A, B]))
        self.shown(([THEN, A], [B]), ([THEN], [NOT_A, B]))
        self.failing(([NOT_A], [A]), ([AND], [C]), ([OR], [A]), ([OR], [B]))
        self.failing(([THEN], [B]), ([THEN], [A]), ([THEN, B], [A]))

    def test_each_kind_on_the_right(self):
        self.shown(([B], [NOT_A, A]), ([A, B], [AND]), ([A], [OR]), ([B], [OR]))
        self.shown(([B], [THEN]), ([], [THEN, A]), ([NOT_A], [THEN]))
        self.failing(([A], [NOT_A]), ([A], [AND]), ([B], [AND]), ([C], [OR]))
        self.failing(([A], [THEN]), ([], [THEN]))

    def test_the_same_formula_on_both_sides(self):
        for f in small_formulas(2) + [full(3), full(4, "or"), ("then", full(3), D)]:
            if plain_words(([f], [f])) <= 60:
                self.shown(([f], [f]), ([C, f], [f, D]))

    def test_formulas_several_times_on_a_side(self):
        self.shown(([A, A, A], [A, A]), ([OR, OR, THEN, OR, THEN], [B, B]))
        self.shown(([AND, AND], [B, AND, B]), ([], [OR, OR, NOT_A, NOT_A]))
        self.failing(([A, A, B], [C, C]), ([OR, OR], [AND, AND]), ([THEN, THEN], [A, A, B]))

    def test_one_formula_on_both_places(self):
        for f in (A, NOT_A, AND):
            self.shown(([("and", f, f)], [f]), ([("or", f, f)], [f]), ([f], [("and", f, f)]))
            self.shown(([f], [("or", f, f)]), ([("or", f, f)], [("and", f, f)]))
            self.shown(([], [("then", f, f)]))
            self.failing(([("then", f, f)], [f]), ([("then", f, f), ("or", f, f)], []))

    def test_formulas_within_one_another(self):
        self.shown(
            ([], [("then", ("then", ("then", A, B), A), A)]),
            ([("not", ("and", A, B))], [("or", ("not", A), ("not", B))]),
            ([("or", A, ("and", B, C))], [("and", ("or", A, B), ("or", A, C))]),
            ([("then", A, B), ("then", B, C)], [("then", A, C)]),
            ([("and", ("or", A, B), ("or", NOT_A, B))], [B]),
            ([nots(12)], [("not", A)]),
        )
        self.failing(
            ([], [("then", ("then", A, B), A)]), ([("not", ("and", A, B))], [("not", A)]),
            ([("or", A, ("and", B, C))], [("and", A, ("or", A, C))]), ([nots(11)], [("not", A)]),
        )

    def test_twelve_within_one_another(self):
        for f in chains_around(A, 11):
            for claim in [([f], []), ([], [f]), ([f], [A]), ([A], [f]), ([f], [f])]:
                if plain_words(claim) <= 60:
                    self.assertEqual(self.decide(claim) == "chain", plain_always(claim), claim)

    def test_all_small_claims(self):
        rows = small_formulas(2)
        some = [list(row) for many in range(3) for row in combinations_with_replacement(rows, many)]
        short = [[], *[[f] for f in rows]]
        claims = list(product(some, short)) + list(product(short, some))
        for claim in claims:
            self.assertEqual(self.decide(claim) == "chain", plain_always(claim), claim)

    def test_some_claims(self):
        chance = random.Random(1)
        told = {"chain": 0, "world": 0}
        for _ in range(800):
            claim = some_claim(chance, chance.randrange(4, 61), chance.choice((5, 9, 14)), 5)
            word = self.decide(claim)
            told[word] += 1
            self.assertEqual(word == "chain", plain_always(claim), claim)
        self.assertGreater(min(told.values()), 100)

    def test_every_formula_of_a_line_is_a_part(self):
        chance = random.Random(2)
        for _ in range(100):
            claim = some_claim(chance, 30, 9, 3)
            word, found = decided(claim)
            parts = [part for side in claim for f in side for part in plain_parts(f)]
            for line in found if word == "chain" else []:
                for f in line[0][0] + line[0][1]:
                    self.assertIn(f, parts)

    def test_what_the_program_says_of_what_is_told(self):
        chance = random.Random(3)
        for _ in range(200):
            claim = some_claim(chance, 40, 9, 4)
            word, found = decided(claim)
            if word == "chain":
                self.assertIsNone(wrong_line(found))
                self.assertEqual(lemma_lines(found), [])
                self.assertTrue(alike(found[-1][0], claim))
            else:
                self.assertFalse(holds(claim, found))

    def test_refuses_what_is_no_claim(self):
        for thing in NO_CLAIMS + too_long():
            self.assert_refused(BadClaim, decided, thing)
        for thing in NO_FORMULAS:
            for claim in claims_around(thing):
                self.assert_refused(BadClaim, decided, claim)

    def test_by_name(self):
        self.assertEqual(decided(claim=([A], [A]))[0], "chain")

    def test_nothing_stays_bound_to_what_was_told(self):
        for claim in [
            ([OR, OR, THEN], [B, B]), ([A], [A]), ([A, OR], [B]), ([A], []), ([], []),
            ([("and", OR, THEN)], [("and", B, ("or", B, C))]),
        ]:
            kept = copy.deepcopy(claim)
            first = decided(claim)
            again = copy.deepcopy(first)
            spoil(first)
            self.assertEqual(claim, kept)
            self.assertEqual(decided(claim), again)
            self.assertEqual(decided(copy.deepcopy(claim)), again)


class SixtyWordsTest(DecidedCase):
    """Claims with too many worlds, and too many ways through them, to go through all."""

    def test_signs_alone(self):
        left, right = [sign(n) for n in range(30)], [sign(n) for n in range(30, 60)]
        self.failing((left, right), (left + right, []), ([], left + right))
        self.shown((left, right[:29] + [sign(0)]), ([sign(7)] * 30, [sign(7)] * 30))

    def test_five_ors_of_two(self):
        ors = [("or", sign(n), sign(n + 5)) for n in range(5)]
        turned = [("or", sign(n + 5), sign(n)) for n in range(5)]
        self.failing((ors, [sign(n) for n in range(20, 65)]), (ors, [sign(20)] * 45))
        self.shown((ors, turned), (ors, [joined("and", turned)]))
        self.shown(([joined("and", ors)], turned[4:]))
        for at in range(5):
            self.failing((ors[:at] + ors[at + 1:], [joined("and", turned)]))
        # Each way through the first four leads to the sign, and one through the last does not.
        thens = [("then", sign(n), sign(90)) for n in (0, 1, 2, 3, 5, 6, 7, 8, 4)]
        self.shown((ors + thens, [sign(90)] * 18))
        self.failing((ors[4:] + thens, [sign(90)] * 30))

    def test_five_ors_of_two_large_ones(self):
        # Eleven words each.
        ors = [("or", joined("and", [sign(n), sign(n + 5), sign(n + 10)]),
                joined("and", [sign(n + 15), sign(n + 20), sign(90)])) for n in range(5)]
        self.failing((ors, [sign(91)] * 5), (ors, [("and", sign(90), sign(0)), sign(1)]))
        self.shown((ors, [sign(90), sign(1)]), (ors, [sign(90), ("and", sign(1), sign(11))]))
        self.shown((ors[1:] + ors[:1], [sign(90), ("and", sign(10), sign(0))]))

    def test_fifteen_formulas_of_four_words(self):
        steps = [("or", ("not", sign(n)), sign(n + 1)) for n in range(15)]
        self.failing((steps, []), (steps[:14], [("or", ("not", sign(0)), sign(15))]))
        ring = steps[:13]
        ring += [("then", ("not", sign(0)), sign(20)), ("not", ("or", sign(13), sign(20)))]
        self.shown((ring, []), (ring[::-1], []), (ring[::2] + ring[1::2], []))
        turned = [("and", sign(n), ("not", sign(n + 1))) for n in range(13)]
        turned += [("not", ("or", sign(0), sign(20))), ("then", ("not", sign(20)), sign(13))]
        self.shown(([], turned), ([], turned[::-1]), ([], turned[::2] + turned[1::2]))
        for at in range(15):
            # Without any one of them, the others are true, or none is, in some world.
            self.failing((ring[:at] + ring[at + 1:], []), ([], turned[:at] + turned[at + 1:]))

    def test_fifteen_formulas_of_four_words_that_all_split(self):
        for word, inner in product(("or", "then"), ("first", "second")):
            rows = [
                (word, ("not", sign(n)), sign(n + 40)) if inner == "first"
                else (word, sign(n), ("not", sign(n + 40))) for n in range(15)
            ]
            self.failing((rows, []))
        rows = [("not", ("and", sign(n), sign(n + 40))) for n in range(15)]
        self.failing((rows, []), ([], [("not", ("or", sign(n), sign(n + 40))) for n in range(15)]))

    def test_twenty_ors(self):
        ors = [("or", sign(n), sign(n + 40)) for n in range(20)]
        self.failing((ors, []), ([], [("and", sign(n), sign(n + 40)) for n in range(20)]))

    def test_many_that_play_no_part(self):
        core = [("or", A, B), ("or", NOT_A, B), ("or", A, ("not", B))]
        others = [("or", sign(n), sign(n + 30)) for n in range(10, 24)]
        for left in (core + others, others + core, others[:7] + core + others[7:]):
            self.shown((left, [AND]))
            self.failing((left, [C]))
        chained = [("or", sign(n), sign(n + 1)) for n in range(10, 24)]
        self.shown((chained + core, [AND]))
        self.shown(([("then", sign(n), sign(n + 1)) for n in range(10, 24)] + core, [AND]))

    def test_large_ones_that_play_no_part(self):
        core = [("or", A, B), ("or", NOT_A, B), ("or", A, ("not", B))]
        others = [("or", sign(n), ("or", sign(n + 30), sign(n + 60))) for n in range(10, 19)]
        for left in (core + others, others + core, others[:4] + core + others[4:]):
            self.shown((left, [AND]))
            self.failing((left, [C]))

    def test_three_in_two_places(self):
        at = [[sign(3 * place + one) for place in range(2)] for one in range(3)]
        left = [("or", *row) for row in at]
        right = [("and", at[one][place], at[other][place])
                 for place in range(2) for one in range(3) for other in range(one)]
        self.shown((left, right))
        for n in range(6):
            self.failing((left, right[:n] + right[n + 1:]))

    def test_all_of_three_signs(self):
        rows = [joined("or", [sign(n) if told[n] else ("not", sign(n)) for n in range(3)])
                for told in product((False, True), repeat=3)]
        self.shown((rows, []))
        for n in range(8):
            self.failing((rows[:n] + rows[n + 1:], []))

    def test_a_ring_of_thens(self):
        both = [("and", ("then", sign(n), sign(n + 1)), ("then", sign(n + 1), sign(n)))
                for n in range(7)]
        ends = ("and", ("then", sign(7), sign(0)), ("then", sign(0), sign(7)))
        self.shown((both, [ends]), (both[::2] + both[1::2], [ends]))
        self.failing((both[1:], [ends]), (both, [sign(0)]))

    def test_five_of_twelve_words(self):
        self.shown(([nots(12), ("not", nots(11))], [nots(12)] * 3))
        self.failing(([nots(12)] * 5, []))
        self.failing(([], [nots(12)] * 5))
        self.failing(([nots(12)] * 3, [A] * 24))

    def test_some_claims(self):
        chance = random.Random(4)
        told = {"chain": 0, "world": 0}
        for _ in range(400):
            claim = some_claim(chance, 60, chance.choice((4, 6, 9)), chance.choice((9, 20, 30)))
            told[self.decide(claim)] += 1
        self.assertGreater(min(told.values()), 20)


if __name__ == "__main__":
    unittest.main()
