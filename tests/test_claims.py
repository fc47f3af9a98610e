import copy
import unittest
from itertools import permutations, product

from lemmaless.claims import alike, holds, is_claim
from lemmaless.errors import BadClaim
from tests.samples import (
    A, B, C, D, NO_CLAIMS, NO_FORMULAS, chains_around, claims_around, full, nots, of_words,
    small_formulas, too_long, worlds,
)


class IsClaimTest(unittest.TestCase):
    def test_ordinary_claims(self):
        for claim in [
            ([A], [A]), ([A, B], [C]), ([("then", A, B), A], [B]), ([], [("or", A, ("not", A))]),
            ([("and", A, ("not", A))], []), ([D], [A, B, C, D]),
        ]:
            self.assertIs(is_claim(claim), True, claim)

    def test_empty_sides(self):
        for claim in [([], []), ([A], []), ([], [A])]:
            self.assertIs(is_claim(claim), True, claim)

    def test_one_that_stands_twice(self):
        for claim in [([A, A], []), ([], [A, B, A]), ([A, A], [A, A])]:
            self.assertIs(is_claim(claim), True, claim)

    def test_each_formula_on_each_side(self):
        for f in small_formulas(3) + chains_around(A, 11):
            self.assertIs(is_claim(([f], [])), True, f)
            self.assertIs(is_claim(([], [f])), True, f)

    def test_sixty_words(self):
        for left in range(61):
            claim = (of_words(left), of_words(60 - left))
            self.assertIs(is_claim(claim), True, claim)
        self.assertIs(is_claim(([A] * 60, [])), True)
        self.assertIs(is_claim(([], [("sign", n) for n in range(60)])), True)
        for word in ("and", "or", "then"):
            self.assertIs(is_claim(([(word, A, B)] * 20, [])), True)
            self.assertIs(is_claim(([], [(word, A, B)] * 20)), True)

    def test_sixty_one_words(self):
        for left in range(62):
            claim = (of_words(left), of_words(61 - left))
            self.assertIs(is_claim(claim), False, claim)
        for claim in too_long():
            self.assertIs(is_claim(claim), False, claim)

    def test_one_that_stands_twice_counts_twice(self):
        f = full(5)
        self.assertIs(is_claim(([f], [])), True)
        self.assertIs(is_claim(([f, f], [])), False)
        self.assertIs(is_claim(([], [f, f])), False)
        self.assertIs(is_claim(([f], [f])), False)
        self.assertIs(is_claim(([nots(12)] * 5, [])), True)
        self.assertIs(is_claim(([nots(12)] * 5 + [A], [])), False)
        self.assertIs(is_claim(([nots(12)] * 3, [nots(12)] * 2)), True)
        self.assertIs(is_claim(([nots(12)] * 3, [nots(12)] * 2 + [A])), False)

    def test_parts_that_stand_twice_in_a_formula_count_twice(self):
        # Thirty-one words, though it has five parts alone.
        self.assertIs(is_claim(([full(5)], of_words(29))), True)
        self.assertIs(is_claim(([full(5)], of_words(30))), False)

    def test_each_word_counts_one(self):
        for f, words in [
            (A, 1), (("not", A), 2), (("and", A, B), 3), (("or", A, B), 3), (("then", A, B), 3),
            (("then", ("not", A), ("and", B, ("or", A, C))), 8),
        ]:
            self.assertIs(is_claim(([f], [A] * (60 - words))), True, f)
            self.assertIs(is_claim(([f], [A] * (61 - words))), False, f)
            self.assertIs(is_claim(([A] * (60 - words), [f])), True, f)
            self.assertIs(is_claim(([A] * (61 - words), [f])), False, f)

    def test_what_is_no_claim(self):
        for thing in NO_CLAIMS:
            self.assertIs(is_claim(thing), False, thing)

    def test_no_formula_at_any_place(self):
        for thing in NO_FORMULAS:
            for claim in claims_around(thing):
                self.assertIs(is_claim(claim), False, claim)
            for wrong in chains_around(thing, 2):
                self.assertIs(is_claim(([wrong], [])), False)
                self.assertIs(is_claim(([], [A, wrong])), False)

    def test_thirteen_within_one_another(self):
        for f in chains_around(A, 12):
            for claim in claims_around(f):
                self.assertIs(is_claim(claim), False)

    def test_by_name(self):
        self.assertIs(is_claim(thing=([A], [])), True)

    def test_nothing_is_changed(self):
        for claim in [([B, A, A], [C, B]), ([A] * 40, [B] * 40), ([A], [["sign", 1]])]:
            kept = copy.deepcopy(claim)
            is_claim(claim)
            self.assertEqual(claim, kept)


class AlikeTest(unittest.TestCase):
    def both_ways(self, one, other, told):
        self.assertIs(alike(one, other), told, (one, other))
        self.assertIs(alike(other, one), told, (other, one))

    def test_the_same(self):
        for claim in [([A], [B]), ([], []), ([A], []), ([], [B]), ([A, ("not", A)], [C, B])]:
            self.both_ways(claim, copy.deepcopy(claim), True)
            self.assertIs(alike(claim, claim), True)

    def test_another_order(self):
        f = ("and", A, B)
        for left in permutations([A, B, f]):
            for right in permutations([C, ("not", A)]):
                self.both_ways(([A, B, f], [C, ("not", A)]), (list(left), list(right)), True)

    def test_told_once_more(self):
        one = ([A, B], [C, ("not", A)])
        for other in [
            ([A, A, B], [C, ("not", A)]), ([A, B, A], [C, ("not", A)]),
            ([A, B], [C, C, ("not", A)]), ([A, B], [C, ("not", A), ("not", A)]),
            ([B, B, A, A, B], [("not", A), C, C, ("not", A)]),
        ]:
            self.both_ways(one, other, True)

    def test_told_twice_here_and_another_twice_there(self):
        self.both_ways(([A, A, B], [C]), ([A, B, B], [C]), True)
        self.both_ways(([C], [A, A, B]), ([C], [A, B, B]), True)

    def test_one_put_to_a_side(self):
        for one in [([A, B], [C]), ([], []), ([A], []), ([], [A])]:
            for f in [D, ("not", A), ("and", A, B), ("or", A, B)]:
                self.both_ways(one, (one[0] + [f], one[1]), False)
                self.both_ways(one, ([f] + one[0], one[1]), False)
                self.both_ways(one, (one[0], one[1] + [f]), False)
                self.both_ways(one, (one[0], [f] + one[1]), False)
                self.both_ways(one, (one[0] + [f], one[1] + [f]), False)

    def test_one_taken_off_a_side(self):
        one = ([A, B], [C, D])
        for other in [([A], [C, D]), ([B], [C, D]), ([A, B], [C]), ([A, B], [D]), ([A], [C])]:
            self.both_ways(one, other, False)
        self.both_ways(([A, B], [C]), ([A, A], [C]), False)
        self.both_ways(([C], [A, B]), ([C], [B, B]), False)

    def test_one_moved_across(self):
        self.both_ways(([A, B], [C]), ([A], [B, C]), False)
        self.both_ways(([A], [B]), ([A, B], []), False)
        self.both_ways(([A], []), ([], [A]), False)
        self.both_ways(([A, B], []), ([A, B], [A]), False)

    def test_the_sides_the_other_way_round(self):
        self.both_ways(([A], [B]), ([B], [A]), False)
        self.both_ways(([A], [A]), ([A], [A]), True)

    def test_empty_sides(self):
        self.both_ways(([], []), ([], []), True)
        self.both_ways(([], []), ([A], []), False)
        self.both_ways(([], []), ([], [A]), False)
        self.both_ways(([A], []), ([A, A], []), True)
        self.both_ways(([], [A]), ([], [A, A]), True)

    def test_formulas_that_are_nearly_the_same(self):
        for f, g in [
            (("and", A, B), ("and", B, A)), (("and", A, B), ("or", A, B)),
            (A, ("not", ("not", A))), (("sign", 1), ("sign", 11)),
            (("and", ("sign", 1), ("sign", 23)), ("and", ("sign", 12), ("sign", 3))),
            (("and", ("and", A, B), C), ("and", A, ("and", B, C))),
            (nots(12), nots(11)),
        ]:
            self.both_ways(([f], []), ([g], []), False)
            self.both_ways(([], [f]), ([], [g]), False)
            self.both_ways(([f, g], []), ([g, f], []), True)

    def test_two_that_mean_the_same_but_are_not_alike(self):
        self.both_ways(([A], [B]), ([], [("then", A, B)]), False)
        self.both_ways(([], [A]), ([("not", A)], []), False)

    def test_all_small_sides(self):
        sides = [list(row) for many in range(4) for row in product([A, B], repeat=many)]
        for left, right, other in product(sides, repeat=3):
            told = all(f in other for f in left) and all(f in left for f in other)
            self.assertIs(alike((left, right), (other, right)), told)
            self.assertIs(alike((right, left), (right, other)), told)

    def test_sixty_words(self):
        one = ([("sign", n) for n in range(30)], [("sign", n) for n in range(30, 60)])
        other = (one[0][::-1], one[1][::-1])
        self.both_ways(one, other, True)
        self.both_ways(one, (one[0][:-1], one[1]), False)

    def test_twelve_within_one_another(self):
        rows = chains_around(A, 11)
        for f, g in product(rows, rows):
            self.assertIs(alike(([f], [g]), ([g], [f])), f == g)

    def test_refuses_a_first_claim_that_is_none(self):
        for thing in NO_CLAIMS + too_long():
            for other in [([A], [B]), ([], []), thing]:
                with self.assertRaises(BadClaim, msg=thing):
                    alike(thing, other)

    def test_refuses_a_second_claim_that_is_none(self):
        for thing in NO_CLAIMS + too_long():
            for one in [([A], [B]), ([], []), thing]:
                with self.assertRaises(BadClaim, msg=thing):
                    alike(one, thing)

    def test_refuses_sides_with_no_formulas_as_no_claims(self):
        for thing in NO_FORMULAS:
            for claim in claims_around(thing):
                with self.assertRaises(BadClaim, msg=claim):
                    alike(claim, ([A], [B]))
                with self.assertRaises(BadClaim, msg=claim):
                    alike(([A], [B]), claim)
                with self.assertRaises(BadClaim, msg=claim):
                    alike(claim, claim)

    def test_by_name(self):
        self.assertIs(alike(one=([A], []), other=([A, A], [])), True)

    def test_nothing_is_changed(self):
        one, other = ([B, A, A], [C, B, C]), ([A, B], [B, B, C])
        kept = copy.deepcopy((one, other))
        alike(one, other)
        self.assertEqual((one, other), kept)


class HoldsTest(unittest.TestCase):
    def test_empty_sides(self):
        for world in worlds((0, 1)):
            self.assertIs(holds(([], []), world), False)
            self.assertIs(holds(([], [A]), world), 0 in world)
            self.assertIs(holds(([A], []), world), 0 not in world)
            self.assertIs(holds(([], [A, B]), world), 0 in world or 1 in world)
            self.assertIs(holds(([A, B], []), world), not (0 in world and 1 in world))

    def test_not_all_of_the_left_are_true(self):
        self.assertIs(holds(([A, B], [C]), [0]), True)
        self.assertIs(holds(([A, B], [C]), [1]), True)
        self.assertIs(holds(([A, B], [C]), []), True)
        self.assertIs(holds(([A, B], []), [0]), True)

    def test_one_of_the_right_is_true(self):
        self.assertIs(holds(([A], [B, C]), [0, 1]), True)
        self.assertIs(holds(([A], [B, C]), [0, 2]), True)
        self.assertIs(holds(([A], [B, C]), [0, 1, 2]), True)
        self.assertIs(holds(([], [B, C]), [2]), True)

    def test_neither(self):
        self.assertIs(holds(([A, B], [C]), [0, 1]), False)
        self.assertIs(holds(([A], [B, C]), [0]), False)
        self.assertIs(holds(([A, B], [C, D]), [1, 0, 50]), False)

    def test_both(self):
        self.assertIs(holds(([A, B], [C]), [0, 2]), True)
        self.assertIs(holds(([A, B], [C]), [2]), True)

    def test_all_small_claims(self):
        rows = [[], [A], [B], [A, B], [B, A, A], [("not", A)], [("then", A, B), B]]
        for left, right in product(rows, rows):
            for world in worlds((0, 1)):
                told = {
                    A: 0 in world, B: 1 in world, ("not", A): 0 not in world,
                    ("then", A, B): 0 not in world or 1 in world,
                }
                wrong = all(told[f] for f in left) and not any(told[f] for f in right)
                self.assertIs(holds((left, right), world), not wrong, (left, right, world))

    def test_claims_that_hold_everywhere(self):
        for claim in [
            ([A], [A]), ([A, ("then", A, B)], [B]), ([], [("or", A, ("not", A))]),
            ([("and", A, ("not", A))], []), ([("or", A, B)], [A, B]),
        ]:
            for world in worlds((0, 1, 2)):
                self.assertIs(holds(claim, world), True, (claim, world))

    def test_worlds_with_other_numbers(self):
        claim = ([A], [B])
        self.assertIs(holds(claim, [5, 0, 0, 100, -1, 10 ** 50]), False)
        self.assertIs(holds(claim, [5, 1, 0, 1, 100, -1, 10 ** 50]), True)
        self.assertIs(holds(claim, [100, -1, 10 ** 50]), True)

    def test_sixty_words(self):
        left = [("sign", n) for n in range(30)]
        right = [("sign", n) for n in range(30, 60)]
        self.assertIs(holds((left, right), list(range(30))), False)
        self.assertIs(holds((left, right), list(range(29))), True)
        self.assertIs(holds((left, right), list(range(31))), True)
        self.assertIs(holds((left, right), list(range(30)) + [59]), True)

    def test_refuses_what_is_no_claim(self):
        for thing in NO_CLAIMS + too_long():
            for world in ([], [0, 1, 2]):
                with self.assertRaises(BadClaim, msg=thing):
                    holds(thing, world)

    def test_refuses_sides_with_no_formulas_as_no_claims(self):
        for thing in NO_FORMULAS:
            for claim in claims_around(thing):
                for world in ([], [0, 1, 2]):
                    with self.assertRaises(BadClaim, msg=claim):
                        holds(claim, world)

    def test_by_name(self):
        self.assertIs(holds(claim=([A], []), world=[]), True)

    def test_nothing_is_changed(self):
        claim, world = ([B, A, A], [C, B, C]), [3, 1, 0, 1, 100]
        kept = copy.deepcopy((claim, world))
        holds(claim, world)
        self.assertEqual((claim, world), kept)


if __name__ == "__main__":
    unittest.main()
