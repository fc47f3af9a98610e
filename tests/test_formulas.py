import copy
import unittest
from itertools import product

from lemmaless.errors import BadFormula
from lemmaless.formulas import MOST_DEEP, MOST_SIGN, MOST_WORDS, is_formula, parts, truth
from tests.plain import plain_parts, plain_truth
from tests.samples import (
    A, B, C, D, NO_FORMULAS, ONE_WORDS, TWO_WORDS, chains_around, full, small_formulas, worlds,
    wrapped_once,
)

CASES = list(product([False, True], repeat=2))


class NumbersTest(unittest.TestCase):
    def test_the_limits(self):
        self.assertEqual((MOST_SIGN, MOST_DEEP, MOST_WORDS), (99, 12, 60))
        for limit in (MOST_SIGN, MOST_DEEP, MOST_WORDS):
            self.assertIs(limit.__class__, int)


class IsFormulaTest(unittest.TestCase):
    def test_each_of_the_five_kinds(self):
        for f in [A, ("not", A), ("and", A, B), ("or", A, B), ("then", A, B)]:
            self.assertIs(is_formula(f), True, f)

    def test_a_formula_may_stand_on_both_sides(self):
        for word in TWO_WORDS:
            self.assertIs(is_formula((word, A, A)), True)

    def test_each_within_each(self):
        for f in small_formulas(3):
            self.assertIs(is_formula(f), True, f)

    def test_signs_from_0_to_99(self):
        for n in range(0, 100):
            self.assertIs(is_formula(("sign", n)), True, n)

    def test_signs_beyond(self):
        for n in [-1, 100, -2, 101, -99, 999, 2 ** 64, 10 ** 100, -10 ** 100]:
            self.assertIs(is_formula(("sign", n)), False, n)
            for f in wrapped_once(("sign", n)):
                self.assertIs(is_formula(f), False, f)

    def test_the_edges_of_the_signs_within_others(self):
        for n in (0, 99):
            for f in wrapped_once(("sign", n)):
                self.assertIs(is_formula(f), True, f)

    def test_up_to_twelve_within_one_another(self):
        for times in range(12):
            for f in chains_around(A, times):
                self.assertIs(is_formula(f), True, f)

    def test_thirteen_and_more_within_one_another(self):
        for times in (12, 13, 14, 20, 60):
            for f in chains_around(A, times):
                self.assertIs(is_formula(f), False, f)

    def test_full_formulas_of_twelve_and_thirteen(self):
        for word in TWO_WORDS:
            self.assertIs(is_formula(full(12, word)), True)
            self.assertIs(is_formula(full(13, word)), False)

    def test_thirteen_on_one_side_alone(self):
        most = full(12, "or")
        for f in wrapped_once(most):
            self.assertIs(is_formula(f), False)
        less = full(11, "or")
        for f in wrapped_once(less):
            self.assertIs(is_formula(f), True)

    def test_far_too_deep(self):
        for at in range(7):
            f = A
            for _ in range(5000):
                f = wrapped_once(f)[at]
            self.assertIs(is_formula(f), False)
        self.assertIs(is_formula(full(3000)), False)

    def test_what_is_no_formula(self):
        for thing in NO_FORMULAS:
            self.assertIs(is_formula(thing), False, thing)

    def test_no_formula_at_any_depth_on_either_side(self):
        for thing in NO_FORMULAS:
            for times in range(1, 12):
                for f in chains_around(thing, times):
                    self.assertIs(is_formula(f), False, f)

    def test_true_and_false_are_no_numbers(self):
        for n in (True, False):
            for f in [("sign", n), *wrapped_once(("sign", n))]:
                self.assertIs(is_formula(f), False, f)

    def test_by_name(self):
        self.assertIs(is_formula(thing=A), True)

    def test_nothing_is_changed(self):
        for thing in [["sign", 1], ("not", ["sign", 1]), [A, [B]], ("and", [], {"a": [1]})]:
            kept = copy.deepcopy(thing)
            is_formula(thing)
            self.assertEqual(thing, kept)


class PartsTest(unittest.TestCase):
    def test_a_sign(self):
        self.assertEqual(parts(A), [A])
        self.assertEqual(parts(D), [D])

    def test_each_kind(self):
        self.assertEqual(parts(("not", A)), [("not", A), A])
        for word in TWO_WORDS:
            self.assertEqual(parts((word, A, B)), [(word, A, B), A, B])
            self.assertEqual(parts((word, B, A)), [(word, B, A), B, A])

    def test_the_formula_then_those_of_f_then_those_of_g(self):
        f = ("then", ("not", C), ("or", B, A))
        self.assertEqual(parts(f), [f, ("not", C), C, ("or", B, A), B, A])

    def test_those_of_f_are_all_told_ahead_of_g(self):
        f = ("and", ("or", ("not", A), B), ("not", C))
        self.assertEqual(parts(f), [f, ("or", ("not", A), B), ("not", A), A, B, ("not", C), C])

    def test_one_that_stands_on_both_sides(self):
        for word in TWO_WORDS:
            self.assertEqual(parts((word, A, A)), [(word, A, A), A])
        f = ("and", ("not", A), ("not", A))
        self.assertEqual(parts(f), [f, ("not", A), A])

    def test_one_that_stands_within_f_and_is_g(self):
        f = ("or", ("not", A), A)
        self.assertEqual(parts(f), [f, ("not", A), A])

    def test_one_that_is_f_and_stands_within_g(self):
        f = ("or", A, ("not", A))
        self.assertEqual(parts(f), [f, A, ("not", A)])
        f = ("then", B, ("and", A, B))
        self.assertEqual(parts(f), [f, B, ("and", A, B), A])

    def test_one_that_stands_within_f_and_within_g(self):
        f = ("and", ("or", A, B), ("then", B, ("not", A)))
        self.assertEqual(parts(f), [f, ("or", A, B), A, B, ("then", B, ("not", A)), ("not", A)])

    def test_one_that_stands_several_times_within_f(self):
        inner = ("and", ("not", A), ("or", ("not", A), A))
        f = ("then", inner, inner)
        self.assertEqual(parts(f), [f, inner, ("not", A), A, ("or", ("not", A), A)])

    def test_parts_that_are_alike_but_not_the_same(self):
        f = ("and", ("and", A, B), ("and", B, A))
        self.assertEqual(parts(f), [f, ("and", A, B), A, B, ("and", B, A)])
        f = ("and", ("or", ("sign", 1), ("sign", 11)), ("or", ("sign", 11), ("sign", 1)))
        self.assertEqual(parts(f), [f, f[1], ("sign", 1), ("sign", 11), f[2]])
        f = ("then", ("and", ("sign", 1), ("sign", 23)), ("and", ("sign", 12), ("sign", 3)))
        self.assertEqual(parts(f), [f, f[1], *f[1][1:], f[2], *f[2][1:]])

    def test_the_same_inside_behind_other_words(self):
        f = ("and", ("or", A, B), ("then", A, B))
        self.assertEqual(parts(f), [f, ("or", A, B), A, B, ("then", A, B)])

    def test_the_same_formula_from_two_tuples(self):
        one, other = tuple(["not", ("sign", 5)]), tuple(["not", ("sign", 5)])
        self.assertEqual(parts(("or", one, other)), [("or", one, other), one, ("sign", 5)])

    def test_all_small_formulas(self):
        for f in small_formulas(3):
            self.assertEqual(parts(f), plain_parts(f), f)

    def test_deep_formulas(self):
        for f in chains_around(A, 11) + chains_around(B, 11):
            self.assertEqual(parts(f), plain_parts(f), f)
        rows = parts(full(12))
        self.assertEqual(rows, [full(deep) for deep in range(12, 0, -1)])

    def test_hundreds_of_parts(self):
        # Ten within one another, and far more parts than a formula of one shape has.
        rows = [("sign", n % 100) for n in range(512)]
        while len(rows) > 1:
            word = TWO_WORDS[len(rows) % 3]
            rows = [(word, f, g) for f, g in zip(rows[::2], rows[1::2])]
        self.assertEqual(parts(rows[0]), plain_parts(rows[0]))

    def test_a_new_list_with_each_call(self):
        f = ("and", A, ("not", B))
        first = parts(f)
        self.assertIs(first.__class__, list)
        second = parts(f)
        self.assertIsNot(first, second)
        first.append(C)
        first[0] = C
        self.assertEqual(second, [f, A, ("not", B), B])
        self.assertEqual(parts(f), [f, A, ("not", B), B])
        self.assertIsNot(parts(A), parts(A))

    def test_refuses_what_is_no_formula(self):
        for thing in NO_FORMULAS:
            for wrong in [thing, *chains_around(thing, 1), *chains_around(thing, 11)]:
                with self.assertRaises(BadFormula, msg=wrong):
                    parts(wrong)

    def test_refuses_thirteen_within_one_another(self):
        for f in chains_around(A, 12) + [full(13)]:
            with self.assertRaises(BadFormula):
                parts(f)

    def test_tells_of_each_sign(self):
        for n in range(100):
            self.assertEqual(parts(("sign", n)), [("sign", n)])

    def test_by_name(self):
        self.assertEqual(parts(f=A), [A])

    def test_the_formula_is_not_changed(self):
        f = ("and", ("not", A), ("or", ("not", A), B))
        kept = copy.deepcopy(f)
        parts(f)
        self.assertEqual(f, kept)
        wrong = ("not", ["sign", 1])
        with self.assertRaises(BadFormula):
            parts(wrong)
        self.assertEqual(wrong, ("not", ["sign", 1]))


class TruthTest(unittest.TestCase):
    def world(self, a, b):
        return [n for n, told in ((0, a), (1, b)) if told]

    def test_a_sign(self):
        for n in range(100):
            self.assertIs(truth(("sign", n), [n]), True)
            self.assertIs(truth(("sign", n), [k for k in range(100) if k != n]), False)

    def test_not(self):
        self.assertIs(truth(("not", A), []), True)
        self.assertIs(truth(("not", A), [0]), False)

    def test_and(self):
        for a, b in CASES:
            self.assertIs(truth(("and", A, B), self.world(a, b)), a and b)

    def test_or(self):
        for a, b in CASES:
            self.assertIs(truth(("or", A, B), self.world(a, b)), a or b)

    def test_then(self):
        for (a, b), told in zip(CASES, [True, True, False, True]):
            self.assertIs(truth(("then", A, B), self.world(a, b)), told)

    def test_within_one_another(self):
        for f in small_formulas(3):
            for world in worlds((0, 1)):
                self.assertIs(truth(f, world), plain_truth(f, world), (f, world))

    def test_each_word_around_each_over_three_signs(self):
        inner = [(word, B, C) for word in TWO_WORDS] + [("not", B), B]
        for f in inner:
            for around in wrapped_once(f):
                for again in wrapped_once(around, C):
                    for world in worlds((0, 1, 2)):
                        self.assertIs(truth(again, world), plain_truth(again, world))

    def test_twelve_within_one_another(self):
        for f in chains_around(B, 11) + [full(12, word, B) for word in TWO_WORDS]:
            for world in worlds((0, 1)):
                self.assertIs(truth(f, world), plain_truth(f, world))

    def test_the_empty_world(self):
        for f, told in [
            (A, False), (("not", A), True), (("and", A, B), False), (("or", A, B), False),
            (("then", A, B), True), (("not", ("then", A, B)), False),
        ]:
            self.assertIs(truth(f, []), told, f)

    def test_numbers_that_are_no_signs_of_the_formula(self):
        more = [2, 3, 50, 98, 99]
        for f in small_formulas(2):
            for world in worlds((0, 1)):
                self.assertIs(truth(f, more + world), plain_truth(f, world))
                self.assertIs(truth(f, world + more), plain_truth(f, world))

    def test_numbers_that_are_no_signs_at_all(self):
        more = [-1, -2, 100, 101, -100, 2 ** 64, 10 ** 300, -10 ** 300]
        for f in small_formulas(2):
            for world in worlds((0, 1)):
                self.assertIs(truth(f, world + more), plain_truth(f, world))
                self.assertIs(truth(f, more + world), plain_truth(f, world))
        self.assertIs(truth(D, [-1]), False)
        self.assertIs(truth(B, [-99, 101, 1 + 2 ** 64]), False)

    def test_numbers_that_stand_twice(self):
        for f in small_formulas(2):
            for world in worlds((0, 1)):
                self.assertIs(truth(f, world + world), plain_truth(f, world))
                self.assertIs(truth(f, world + [7, 7] + world[::-1]), plain_truth(f, world))

    def test_the_order_of_a_world_plays_no_part(self):
        for f in small_formulas(2, (0, 1, 2)):
            for world in worlds((0, 1, 2)):
                self.assertIs(truth(f, world[::-1]), plain_truth(f, world))

    def test_true_and_false_are_no_signs(self):
        self.assertIs(truth(B, [True]), False)
        self.assertIs(truth(A, [False]), False)
        self.assertIs(truth(("not", B), [True]), True)
        self.assertIs(truth(B, [True, 1]), True)
        self.assertIs(truth(B, [1, True]), True)

    def test_refuses_what_is_no_formula(self):
        for thing in NO_FORMULAS:
            for wrong in [thing, *chains_around(thing, 1), *chains_around(thing, 11)]:
                for world in ([], [0, 1]):
                    with self.assertRaises(BadFormula, msg=wrong):
                        truth(wrong, world)

    def test_refuses_where_the_other_side_would_tell(self):
        for f in [("or", B, None), ("and", A, None), ("then", A, None)]:
            with self.assertRaises(BadFormula):
                truth(f, [1])

    def test_refuses_thirteen_within_one_another(self):
        for f in chains_around(A, 12) + [full(13)]:
            with self.assertRaises(BadFormula):
                truth(f, [0])

    def test_by_name(self):
        self.assertIs(truth(f=A, world=[0]), True)

    def test_nothing_is_changed(self):
        f = ("then", ("not", A), ("and", B, ("or", A, C)))
        kept = copy.deepcopy(f)
        for world in [[], [3, 1, 1, 0, 100, -5], [2, 0, 2]]:
            numbers = list(world)
            truth(f, world)
            self.assertEqual(world, numbers)
            self.assertEqual(f, kept)

    def test_the_same_answer_with_each_call(self):
        world = [1]
        f = ("then", ("or", A, B), ("not", C))
        self.assertEqual([truth(f, world) for _ in range(20)], [True] * 20)
        world.append(2)
        self.assertIs(truth(f, world), False)


class SamplesTest(unittest.TestCase):
    def test_every_word_is_there(self):
        told = {f[0] for f in small_formulas(2)}
        self.assertEqual(told, {"sign", *ONE_WORDS, *TWO_WORDS})


if __name__ == "__main__":
    unittest.main()
