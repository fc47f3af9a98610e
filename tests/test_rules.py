import copy
import unittest
from itertools import combinations, product

from lemmaless.errors import BadClaim
from lemmaless.rules import wanted
from tests.cases import LineCase, spoil
from tests.plain import plain_wanted, plain_words, sides
from tests.samples import (
    A, AND, B, C, D, NOT_A, NO_CLAIMS, NO_FORMULAS, NO_RULES, OR, THEN, TWO_WORDS, chains_around,
    claims_around, full, nots, of_words, small_formulas, too_long,
)

COMPOUND = [NOT_A, AND, OR, THEN]

class WantedCase(LineCase):
    def wants(self, claim, rule, *claims):
        """The rule wants just claims alike to these of claim, in this order."""
        kept = copy.deepcopy((claim, rule))
        told = wanted(claim, rule)
        self.assertIs(told.__class__, list, (claim, rule))
        for one in told:
            self.assert_told_once(one)
        self.assertEqual([sides(one) for one in told], [sides(one) for one in claims])
        self.assert_new_lists(told, claim, rule)
        self.assertEqual((claim, rule), kept)

    def does_not_fit(self, claim, rule):
        kept = copy.deepcopy(claim)
        self.assertIsNone(wanted(claim, rule), (claim, rule))
        self.assertEqual(claim, kept)


class SameTest(WantedCase):
    def test_on_both_sides(self):
        for f in small_formulas(2) + [D, full(3)]:
            self.wants(([f], [f]), ("same", f))
            self.wants(([B, f, C], [C, f]), ("same", f))
            self.wants(([f, f], [A, f, f, f]), ("same", f))

    def test_on_one_side_alone(self):
        for f in small_formulas(2):
            self.does_not_fit(([f], []), ("same", f))
            self.does_not_fit(([], [f]), ("same", f))
            self.does_not_fit(([f, f], [("not", f), D]), ("same", f))
            self.does_not_fit(([D, ("not", f)], [D, f]), ("same", f))

    def test_on_none(self):
        self.does_not_fit(([], []), ("same", A))
        self.does_not_fit(([B], [B]), ("same", A))
        self.does_not_fit(([NOT_A], [NOT_A]), ("same", A))
        self.does_not_fit(([A], [A]), ("same", NOT_A))
        self.does_not_fit(([AND], [AND]), ("same", ("and", B, A)))
        self.does_not_fit(([D], [D]), ("same", full(12)))


class LeftTest(WantedCase):
    def test_not(self):
        self.wants(([NOT_A, B], [C]), ("left", NOT_A), ([B], [C, A]))
        self.wants(([NOT_A], []), ("left", NOT_A), ([], [A]))

    def test_and(self):
        self.wants(([AND, C], [D]), ("left", AND), ([C, A, B], [D]))
        self.wants(([AND], []), ("left", AND), ([A, B], []))

    def test_or(self):
        self.wants(([OR, C], [D]), ("left", OR), ([C, A], [D]), ([C, B], [D]))
        self.wants(([OR], []), ("left", OR), ([A], []), ([B], []))

    def test_then(self):
        self.wants(([THEN, C], [D]), ("left", THEN), ([C], [D, A]), ([C, B], [D]))
        self.wants(([THEN], []), ("left", THEN), ([], [A]), ([B], []))

    def test_a_sign(self):
        self.does_not_fit(([A], [B]), ("left", A))
        self.does_not_fit(([A], [A]), ("left", A))
        self.does_not_fit(([], []), ("left", A))

    def test_on_the_other_side_alone_or_on_none(self):
        for f in COMPOUND:
            self.does_not_fit(([], [f]), ("left", f))
            self.does_not_fit(([A, B], [f, C]), ("left", f))
            self.does_not_fit(([], []), ("left", f))
            self.does_not_fit(([("not", f), A, B], [("not", f)]), ("left", f))

    def test_on_both_sides_it_goes_from_the_left_alone(self):
        self.wants(([NOT_A], [NOT_A]), ("left", NOT_A), ([], [NOT_A, A]))
        self.wants(([AND], [AND]), ("left", AND), ([A, B], [AND]))
        self.wants(([OR], [OR]), ("left", OR), ([A], [OR]), ([B], [OR]))
        self.wants(([THEN], [THEN]), ("left", THEN), ([], [THEN, A]), ([B], [THEN]))


class RightTest(WantedCase):
    def test_not(self):
        self.wants(([B], [NOT_A, C]), ("right", NOT_A), ([B, A], [C]))
        self.wants(([], [NOT_A]), ("right", NOT_A), ([A], []))

    def test_and(self):
        self.wants(([C], [AND, D]), ("right", AND), ([C], [D, A]), ([C], [D, B]))
        self.wants(([], [AND]), ("right", AND), ([], [A]), ([], [B]))

    def test_or(self):
        self.wants(([C], [D, OR]), ("right", OR), ([C], [D, A, B]))
        self.wants(([], [OR]), ("right", OR), ([], [A, B]))

    def test_then(self):
        self.wants(([C], [D, THEN]), ("right", THEN), ([C, A], [D, B]))
        self.wants(([], [THEN]), ("right", THEN), ([A], [B]))

    def test_a_sign(self):
        self.does_not_fit(([B], [A]), ("right", A))
        self.does_not_fit(([A], [A]), ("right", A))
        self.does_not_fit(([], []), ("right", A))

    def test_on_the_other_side_alone_or_on_none(self):
        for f in COMPOUND:
            self.does_not_fit(([f], []), ("right", f))
            self.does_not_fit(([f, C], [A, B]), ("right", f))
            self.does_not_fit(([], []), ("right", f))
            self.does_not_fit(([("not", f)], [("not", f), A, B]), ("right", f))

    def test_on_both_sides_it_goes_from_the_right_alone(self):
        self.wants(([NOT_A], [NOT_A]), ("right", NOT_A), ([NOT_A, A], []))
        self.wants(([AND], [AND]), ("right", AND), ([AND], [A]), ([AND], [B]))
        self.wants(([OR], [OR]), ("right", OR), ([OR], [A, B]))
        self.wants(([THEN], [THEN]), ("right", THEN), ([THEN, A], [B]))


class WithAndWithoutTest(WantedCase):
    def test_one_that_stands_twice_goes_from_everywhere(self):
        self.wants(([NOT_A, B, NOT_A], []), ("left", NOT_A), ([B], [A]))
        self.wants(([AND, AND, AND], [C]), ("left", AND), ([A, B], [C]))
        self.wants(([OR, C, OR], []), ("left", OR), ([C, A], []), ([C, B], []))
        self.wants(([THEN, THEN], [C]), ("left", THEN), ([], [C, A]), ([B], [C]))
        self.wants(([], [NOT_A, B, NOT_A]), ("right", NOT_A), ([A], [B]))
        self.wants(([C], [AND, AND]), ("right", AND), ([C], [A]), ([C], [B]))
        self.wants(([C], [OR, OR, D]), ("right", OR), ([C], [A, B, D]))
        self.wants(([C], [D, THEN, THEN]), ("right", THEN), ([C, A], [D, B]))

    def test_one_that_stands_there_already_stands_there_once(self):
        self.wants(([NOT_A], [A]), ("left", NOT_A), ([], [A]))
        self.wants(([A, AND, B], []), ("left", AND), ([A, B], []))
        self.wants(([B, AND], []), ("left", AND), ([A, B], []))
        self.wants(([OR, A, B], []), ("left", OR), ([A, B], []), ([A, B], []))
        self.wants(([THEN, B], [A]), ("left", THEN), ([B], [A]), ([B], [A]))
        self.wants(([A], [NOT_A]), ("right", NOT_A), ([A], []))
        self.wants(([], [AND, A, B]), ("right", AND), ([], [A, B]), ([], [A, B]))
        self.wants(([], [B, OR, A]), ("right", OR), ([], [A, B]))
        self.wants(([A], [THEN, B]), ("right", THEN), ([A], [B]))
        self.wants(([A], [B]), ("lemma", A), ([A], [B, A]), ([A], [B]))
        self.wants(([A], [B]), ("lemma", B), ([A], [B]), ([A, B], [B]))

    def test_one_that_stands_there_already_twice(self):
        self.wants(([AND, A, A], []), ("left", AND), ([A, B], []))
        self.wants(([NOT_A], [A, A]), ("left", NOT_A), ([], [A]))
        self.wants(([A, A], [A]), ("lemma", A), ([A], [A]), ([A], [A]))

    def test_one_on_both_places(self):
        for f in (A, NOT_A, AND):
            twice = {word: (word, f, f) for word in TWO_WORDS}
            self.wants(([twice["and"]], []), ("left", twice["and"]), ([f], []))
            self.wants(([twice["or"]], []), ("left", twice["or"]), ([f], []), ([f], []))
            self.wants(([twice["then"]], []), ("left", twice["then"]), ([], [f]), ([f], []))
            self.wants(([], [twice["and"]]), ("right", twice["and"]), ([], [f]), ([], [f]))
            self.wants(([], [twice["or"]]), ("right", twice["or"]), ([], [f]))
            self.wants(([], [twice["then"]]), ("right", twice["then"]), ([f], [f]))

    def test_others_that_the_claim_tells_twice_are_told_once(self):
        for word, f in product(("left", "right"), COMPOUND):
            claim = ([C, f, C, D, D], [D, C, D, f, f, C])
            told = wanted(claim, (word, f))
            for one in told:
                self.assert_told_once(one)
            self.wants(claim, (word, f), *plain_wanted(claim, (word, f)))
        self.wants(([C, C], [D, D]), ("lemma", A), ([C], [D, A]), ([C, A], [D]))
        self.wants(([C, C, D], [D, D]), ("more", ([C, C], [D, D])), ([C], [D]))

    def test_formulas_that_have_the_same_parts_stay(self):
        self.wants(([("and", B, A), AND], []), ("left", AND), ([("and", B, A), A, B], []))
        self.wants(([("not", NOT_A), NOT_A], []), ("left", NOT_A), ([("not", NOT_A)], [A]))


class MoreTest(WantedCase):
    def test_some_of_what_stands_there(self):
        self.wants(([A, B], [C, D]), ("more", ([A], [D])), ([A], [D]))
        self.wants(([A, B], [C, D]), ("more", ([B], [])), ([B], []))
        self.wants(([A, B], [C, D]), ("more", ([], [C, D])), ([], [C, D]))

    def test_the_same_claim(self):
        for claim in [([A, B], [C]), ([], []), ([AND], []), ([], [OR, A])]:
            self.wants(claim, ("more", claim), claim)
            self.wants(claim, ("more", copy.deepcopy(claim)), claim)

    def test_in_another_order_and_told_twice(self):
        self.wants(([A, B, AND], [C, D]), ("more", ([AND, B, A], [D, C])), ([A, B, AND], [C, D]))
        self.wants(([A, B], [C]), ("more", ([B, A, B], [C, C])), ([A, B], [C]))
        self.wants(([A, A], [C]), ("more", ([A], [C, C, C])), ([A], [C]))

    def test_the_empty_claim(self):
        for claim in [([A, B], [C]), ([], []), ([AND], []), ([], [OR])]:
            self.wants(claim, ("more", ([], [])), ([], []))

    def test_one_that_does_not_stand_there(self):
        self.does_not_fit(([A, B], [C]), ("more", ([A, D], [C])))
        self.does_not_fit(([A, B], [C]), ("more", ([A], [C, D])))
        self.does_not_fit(([A, B], [C]), ("more", ([D], [])))
        self.does_not_fit(([A, B], [C]), ("more", ([], [D])))
        self.does_not_fit(([], []), ("more", ([A], [])))
        self.does_not_fit(([], []), ("more", ([], [A])))
        self.does_not_fit(([AND], [C]), ("more", ([A], [C])))
        self.does_not_fit(([AND], [C]), ("more", ([("and", B, A)], [C])))

    def test_one_that_stands_on_the_other_side_alone(self):
        self.does_not_fit(([A], [B]), ("more", ([B], [])))
        self.does_not_fit(([A], [B]), ("more", ([], [A])))
        self.does_not_fit(([A], [B]), ("more", ([B], [A])))
        self.does_not_fit(([A, C], [B]), ("more", ([A], [B, C])))

    def test_sixty_words_and_sixty_one(self):
        sixty = ([A] * 30, [B] * 30)
        self.wants(([A], [B]), ("more", sixty), ([A], [B]))
        self.does_not_fit(([A], [B]), ("more", ([A] * 31, [B] * 30)))
        self.does_not_fit(([A], [B]), ("more", ([A] * 30, [B] * 31)))
        long = (of_words(29), of_words(31))
        self.wants(long, ("more", long), long)
        self.does_not_fit(long, ("more", (long[0] + [nots(12)], long[1])))
        for claim in too_long():
            # Told once, some of these would be short enough.
            here = (list(dict.fromkeys(claim[0]))[:1], list(dict.fromkeys(claim[1]))[:1])
            if plain_words(here) <= 60:
                self.does_not_fit(here, ("more", claim))


class LemmaTest(WantedCase):
    def test_any_formula(self):
        for f in small_formulas(2) + chains_around(C, 11) + [full(12)]:
            self.wants(([B], [C]), ("lemma", f), ([B], [C, f]), ([B, f], [C]))
            self.wants(([], []), ("lemma", f), ([], [f]), ([f], []))

    def test_one_that_stands_in_the_claim_already(self):
        for f in small_formulas(2):
            self.wants(([f, C], [D]), ("lemma", f), ([f, C], [D, f]), ([f, C], [D]))
            self.wants(([C], [D, f]), ("lemma", f), ([C], [D, f]), ([C, f], [D, f]))
            self.wants(([f], [f]), ("lemma", f), ([f], [f]), ([f], [f]))

    def test_more_than_sixty_words(self):
        left = [("sign", n) for n in range(30)]
        right = [("sign", n) for n in range(30, 60)]
        self.wants((left, right), ("lemma", D), (left, right + [D]), (left + [D], right))
        self.wants((left, right), ("lemma", full(12)),
                   (left, right + [full(12)]), (left + [full(12)], right))
        told = wanted((left, right), ("lemma", D))
        self.assertEqual([plain_words(one) for one in told], [61, 61])


class NoRuleTest(WantedCase):
    CLAIMS = [
        ([A], [A]), ([AND], [AND]), ([], []), (COMPOUND + [A, B], COMPOUND + [B, A]),
    ]

    def test_what_is_no_rule(self):
        for claim, rule in product(self.CLAIMS, NO_RULES):
            self.does_not_fit(claim, rule)

    def test_what_is_no_formula(self):
        for word, thing in product(("same", "left", "right", "lemma"), NO_FORMULAS):
            for claim in self.CLAIMS[1:]:
                self.does_not_fit(claim, (word, thing))
            for wrong in chains_around(thing, 2):
                self.does_not_fit(([A], [A]), (word, wrong))

    def test_thirteen_within_one_another(self):
        for word, f in product(("same", "left", "right", "lemma"), chains_around(A, 12)):
            self.does_not_fit(([A], [A]), (word, f))

    def test_what_is_no_claim(self):
        for thing in NO_CLAIMS + NO_FORMULAS:
            for claim in self.CLAIMS:
                self.does_not_fit(claim, ("more", thing))
        for thing in NO_FORMULAS:
            for wrong in claims_around(thing):
                self.does_not_fit(([A, B], [A, B]), ("more", wrong))

    def test_true_is_not_the_sign_1(self):
        self.does_not_fit(([B], [B]), ("same", ("sign", True)))
        self.does_not_fit(([A], [A]), ("same", ("sign", False)))
        self.does_not_fit(([("not", B)], []), ("left", ("not", ("sign", True))))
        self.does_not_fit(([], [("not", B)]), ("right", ("not", ("sign", True))))
        self.does_not_fit(([B], [B]), ("more", ([("sign", True)], [])))
        self.does_not_fit(([B], [B]), ("lemma", ("sign", True)))


class WantedTest(WantedCase):
    RULES = [("same", A), ("left", AND), ("right", AND), ("lemma", A), ("more", ([], []))]

    def test_all_small_claims(self):
        rows = [A, B, NOT_A, AND, OR, THEN, ("and", A, A)]
        some = [list(row) for many in range(3) for row in combinations(rows, many)]
        for left, right in product(some, some):
            for word, f in product(("same", "left", "right", "lemma"), rows):
                told = plain_wanted((left, right), (word, f))
                if told is None:
                    self.does_not_fit((left, right), (word, f))
                else:
                    self.wants((left, right), (word, f), *told)

    def test_formulas_of_sixty_words(self):
        f = ("and", ("or", full(4), full(4)), ("then", full(4), ("and", full(3), A)))
        left, right = [f], of_words(60 - plain_words(([f], [])))
        self.wants((left, right), ("left", f), ([f[1], f[2]], right))
        self.wants((right, left), ("right", f), (right, [f[1]]), (right, [f[2]]))

    def test_refuses_what_is_no_claim(self):
        for rule in self.RULES + [None, (), ("same",), "lemma", ("more", None)]:
            for thing in NO_CLAIMS + too_long():
                self.assert_refused(BadClaim, wanted, thing, rule)

    def test_refuses_sides_with_no_formulas(self):
        for thing in NO_FORMULAS:
            for claim in claims_around(thing):
                self.assert_refused(BadClaim, wanted, claim, ("lemma", A))

    def test_by_name(self):
        self.assertEqual(wanted(claim=([A], [A]), rule=("same", A)), [])

    def test_nothing_stays_bound_to_what_was_told(self):
        claim = ([AND, OR, NOT_A, THEN, C], [C, THEN, NOT_A, OR, AND])
        rules = [(word, f) for word in ("left", "right") for f in COMPOUND]
        rules += [("lemma", A), ("same", C), ("more", claim), ("more", ([C, C], [C]))]
        for rule in rules:
            kept = copy.deepcopy((claim, rule))
            first = wanted(claim, rule)
            again = copy.deepcopy(first)
            spoil(first)
            self.assertEqual((claim, rule), kept)
            self.assertEqual(wanted(claim, rule), again)

    def test_the_claims_that_are_told_share_no_list(self):
        for rule in [("left", OR), ("left", THEN), ("right", AND), ("lemma", C)]:
            claim = ([OR, THEN, A], [AND, B])
            first, second = wanted(claim, rule)
            kept = copy.deepcopy(second)
            spoil(first)
            self.assertEqual(second, kept)


if __name__ == "__main__":
    unittest.main()
