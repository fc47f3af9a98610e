import copy
import unittest

from lemmaless.chains import lemma_lines, wrong_line
from lemmaless.claims import alike
from lemmaless.errors import BadChain, NoLemma
from lemmaless.taking import step, taken_out
from tests.cases import LEMMALESS, LineCase, spoil
from tests.making import FORMULAS, made_chain
from tests.plain import plain_parts, plain_wanted, plain_words, rested_on
from tests.samples import (
    A, AND, B, C, D, NOT_A, NO_CLAIMS, NO_RULES, OR, THEN, full, nots, of_words, too_long,
)

SAME_A = (([A], [A]), ("same", A), [])
A_OR_OR = ("or", A, OR)

# The lemma line is the last one.
LAST = [
    (([A, B], [A, OR]), ("same", A), []),
    (([AND], [A, OR]), ("left", AND), [0]),
    (([A, AND, A], [A, B]), ("same", A), []),
    (([A, AND], [OR]), ("right", OR), [2]),
    (([AND], [OR]), ("lemma", A), [1, 3]),
]
# It stands in the middle, and two of the lines ahead of it are for it alone.
MIDDLE = LAST + [
    (([AND], [A_OR_OR]), ("right", A_OR_OR), [1]),
    (([AND, AND], [("and", OR, A_OR_OR)]), ("right", ("and", OR, A_OR_OR)), [4, 5]),
    (([C, AND, C], [("and", OR, A_OR_OR), D]), ("more", ([AND], [("and", OR, A_OR_OR)])), [6]),
]
# It is the first line that can be one.
EARLY = [
    SAME_A,
    (([A, A], [A]), ("lemma", A), [0, 0]),
    (([B, A], [A]), ("more", ([A], [A])), [1]),
]
# One lemma line rests on another.
TWO = LAST + [
    (([AND], [B, OR, B]), ("more", ([AND], [OR])), [4]),
    (([B, AND], [OR]), ("more", ([AND], [OR])), [4]),
    (([AND], [OR]), ("lemma", B), [5, 6]),
    (([AND], [D, OR]), ("more", ([AND], [OR])), [7]),
]
# Two lemma lines stand beside one another.
BESIDE = LAST + [
    SAME_A,
    (([A], [A]), ("lemma", A), [5, 5]),
    (([A, B], [A]), ("more", ([A], [A])), [6]),
    (([AND], [A]), ("left", AND), [7]),
    (([AND], [("and", OR, A)]), ("right", ("and", OR, A)), [4, 8]),
]
# The last line does not rest on the lemma line.
UNUSED = LAST + [SAME_A, (([A, B], [A]), ("more", ([A], [A])), [5])]
# It does not rest on the first lemma line, but on the second one.
SECOND = LAST + [SAME_A, (([A], [A]), ("lemma", A), [5, 5])]
CHAINS = [LAST, MIDDLE, EARLY, TWO, BESIDE, UNUSED, SECOND]

NO_CHAINS = [
    None, True, 0, "", "abc", [], (), tuple(LAST), {}, dict(enumerate(LAST)), set(), object(),
    LAST[0], A, ([A], [A]), iter(LAST), [None], [[]], [()], [LAST], [*LAST, None],
    [(([A], [B]), ("same", A), [])], [(([A], [A]), ("same", A))], [LAST[0] + (None,)],
    [SAME_A, (([A], [A]), ("lemma", A), [0])], [SAME_A, (([A], [A]), ("lemma", A), [0, 1])],
    [SAME_A, (([A], [A]), ("lemma", A), (0, 0))], [SAME_A, (([A], [A]), ("lemma", A), [0, -1])],
    [SAME_A, (([A], [A]), ("lemma", A), [False, False])], [(([A], [A]), ("lemma", A), [0, 0])],
    LAST[1:], LAST[::-1], LAST[:3] + LAST[4:], LAST + [(([], []), ("more", ([A], [A])), [0])],
    LAST + [(([AND], [OR]), ("lemma", A), [3, 1])],
]


class TakingCase(LineCase):
    def refuses_what_is_no_chain(self, function):
        for thing in NO_CHAINS:
            self.assert_refused(BadChain, function, thing)
        for claim in NO_CLAIMS + too_long():
            self.assert_refused(BadChain, function, [(claim, ("same", A), [])])
            self.assert_refused(BadChain, function, LAST + [(claim, ("lemma", A), [0, 0])])
        for rule in NO_RULES:
            self.assert_refused(BadChain, function, EARLY + [(([A], [A]), rule, [])])

    def handed_in_stays(self, function, chain):
        """What the function tells, the chain staying, also when that is changed behind."""
        kept = copy.deepcopy(chain)
        told = function(chain)
        self.assertEqual(chain, kept)
        self.assert_new_lists(told, chain)
        again = copy.deepcopy(told)
        spoil(told)
        self.assertEqual(chain, kept)
        self.assertEqual(function(chain), again)
        return again


class StepTest(TakingCase):
    def one_step(self, chain):
        """What a step tells of chain, being as the document says."""
        told = self.handed_in_stays(step, chain)
        self.assert_chain(told, chain[-1][0])
        at = min(n for n, line in enumerate(chain) if line[1][0] == "lemma")
        stay = rested_on(chain, without=at)
        ahead = [n for n in stay if n < at]
        behind = [n for n in stay if n > at]
        put_in = told[len(ahead):len(told) - len(behind)]
        self.assert_put_in(put_in, len(ahead), chain[at][0] if at in stay else None)
        places = {n: place for place, n in enumerate(ahead)}
        places[at] = len(ahead) + len(put_in) - 1
        places.update({n: places[at] + 1 + place for place, n in enumerate(behind)})
        for n in ahead + behind:
            claim, rule, numbers = chain[n]
            self.assertEqual(told[places[n]], (claim, rule, [places[m] for m in numbers]))
        return told

    def assert_put_in(self, lines, start, claim):
        """The lines from start on are a chain of claim alone, or none where there is no claim."""
        if claim is None:
            self.assertEqual(lines, [])
            return
        own = [(one, rule, [n - start for n in numbers]) for one, rule, numbers in lines]
        self.assert_chain(own, claim, LEMMALESS)
        self.assert_each_is_told(own)
        for one, _, _ in own:
            self.assert_told_once(one)

    def test_each_of_the_chains(self):
        for chain in CHAINS:
            self.one_step(chain)

    def test_the_last_line(self):
        told = self.one_step(LAST)
        self.assertEqual(lemma_lines(told), [])
        self.assert_chain(told, ([AND], [OR]), LEMMALESS)
        # Nothing of what stood ahead is left.
        self.assertNotIn(LAST[3], told)
        self.assertNotIn(LAST[2], told)

    def test_in_the_middle(self):
        told = self.one_step(MIDDLE)
        self.assertEqual(told[:2], MIDDLE[:2])
        self.assertNotIn(MIDDLE[2], told)
        self.assertEqual(told[-3], (MIDDLE[5][0], MIDDLE[5][1], [1]))
        self.assertEqual(told[-2], (MIDDLE[6][0], MIDDLE[6][1], [len(told) - 4, len(told) - 3]))
        self.assertEqual(told[-1], (MIDDLE[7][0], MIDDLE[7][1], [len(told) - 2]))

    def test_the_first_line_that_can_be_one(self):
        told = self.one_step(EARLY)
        self.assertEqual(told, [SAME_A, (([B, A], [A]), ("more", ([A], [A])), [0])])

    def test_several(self):
        for chain in (TWO, BESIDE):
            told = self.one_step(chain)
            self.assertEqual(len(lemma_lines(told)), 1)
            last = self.one_step(told)
            self.assertEqual(lemma_lines(last), [])
        rules = [rule for _, rule, _ in step(TWO)]
        self.assertIn(("lemma", B), rules)
        self.assertNotIn(("lemma", A), rules)

    def test_a_lemma_line_behind_stays(self):
        told = self.one_step(TWO)
        self.assertEqual([line[0] for line in told[-4:]], [line[0] for line in TWO[-4:]])

    def test_a_lemma_line_that_the_last_one_does_not_rest_on(self):
        told = self.one_step(UNUSED)
        self.assertEqual(told, [SAME_A, (([A, B], [A]), ("more", ([A], [A])), [0])])

    def test_the_first_is_taken_out_where_the_second_alone_is_needed(self):
        told = self.one_step(SECOND)
        self.assertEqual(told, [SAME_A, (([A], [A]), ("lemma", A), [0, 0])])
        self.assertEqual(self.one_step(told), [SAME_A])

    def test_lines_ahead_that_the_last_one_does_not_rest_on_go(self):
        lines = [(([C], [C]), ("same", C), []), SAME_A, (([A], [A]), ("lemma", A), [1, 1]),
                 (([C, A], [C]), ("more", ([C], [C])), [0]),
                 (([A], [A, C]), ("more", ([A], [A])), [2])]
        self.assertEqual(self.one_step(lines), [SAME_A, (([A], [A, C]), ("more", ([A], [A])), [0])])

    def test_lines_that_stay_stand_as_they_stood(self):
        lines = [
            (([B, A, A, B], [D, A, D, C]), ("same", A), []),
            (([A, B], [A, D, C]), ("more", ([B, A, B], [C, D, A])), [0]),
            (([A, B], [C, D, A]), ("lemma", A), [1, 1]),
            (([B, C, A], [D, A, C, A]), ("more", ([A, B, A], [A, D, C, C])), [2]),
            (([AND, C, C], [D, A, C, A]), ("left", AND), [3]),
            (([D, AND, C], [A, D, C]), ("same", D), []),
            (([AND, C], [A, D, C]), ("lemma", D), [4, 5]),
        ]
        told = self.one_step(lines)
        self.assertEqual(told[-4], (lines[3][0], lines[3][1], [len(told) - 5]))
        self.assertEqual(told[-1], (lines[6][0], lines[6][1], [len(told) - 3, len(told) - 2]))

    def test_a_lemma_line_that_tells_formulas_twice(self):
        lines = [
            (([OR, OR, A], [A, A, B, C]), ("same", A), []),
            (([OR, A, C], [B, A]), ("same", A), []),
            (([OR, A, OR, A], [B, A, B, A, A]), ("lemma", C), [0, 1]),
        ]
        told = self.one_step(lines)
        self.assertEqual(told[-1][0][0].count(OR), 1)
        self.assertTrue(alike(told[-1][0], lines[-1][0]))

    def test_a_lemma_line_of_many_words(self):
        ors = [("or", ("sign", n), ("sign", n + 5)) for n in range(5)]
        right = [("or", ("sign", 5), ("sign", 0))] + [("sign", n) for n in range(20, 60)]
        claim = (ors, right)
        self.assertEqual(plain_words(claim), 58)
        lines = self.split_and_shown(claim, ("sign", 0))
        self.assertEqual(plain_words(lines[-2][0]), 59)
        told = self.one_step(lines)
        self.assertEqual(lemma_lines(told), [])

    def split_and_shown(self, claim, f):
        """A chain whose last line is a lemma line of this claim, made by taking all apart."""
        lines = []

        def show(told_sides, rule=None):
            left, right = sorted(told_sides[0], key=str), sorted(told_sides[1], key=str)
            both = [g for g in left if g in right]
            if rule is None and both:
                rule = ("same", both[0])
            if rule is None:
                rule = [("right", g) for g in right if g[0] != "sign"]
                rule = (rule + [("left", g) for g in left if g[0] != "sign"])[0]
            numbers = [show(one) for one in plain_wanted((left, right), rule)]
            lines.append(((left, right), rule, numbers))
            return len(lines) - 1

        show(claim, ("lemma", f))
        return lines

    def test_lemmas_of_each_kind(self):
        for f in [A, C, NOT_A, AND, OR, THEN, full(3), nots(6), A_OR_OR, ("not", AND)]:
            for claim in [([A], [A]), ([AND], [OR]), ([THEN, A], [B, C]), ([], [("or", A, NOT_A)])]:
                told = self.one_step(self.split_and_shown(claim, f))
                self.assert_chain(told, claim, LEMMALESS)

    def test_made_chains(self):
        for seed in range(300):
            chain = made_chain(seed, "lemma" if seed % 5 == 0 else None)
            # Down to the last one, each step behind the one ahead.
            while any(line[1][0] == "lemma" for line in chain):
                many = len(lemma_lines(chain))
                chain = self.one_step(chain)
                self.assertLess(len(lemma_lines(chain)), many)
            self.assert_refused(NoLemma, step, chain)

    def test_refuses_what_is_no_chain(self):
        self.refuses_what_is_no_chain(step)

    def test_refuses_a_chain_without_a_lemma_line(self):
        for chain in [[SAME_A], LAST[:4], LAST[:2], [SAME_A, SAME_A], UNUSED[5:6]]:
            kept = copy.deepcopy(chain)
            self.assert_refused(NoLemma, step, chain)
            self.assertEqual(chain, kept)

    def test_refuses_no_chain_ahead_of_no_lemma(self):
        self.assert_refused(BadChain, step, [])
        self.assert_refused(BadChain, step, [SAME_A, (([A], [B]), ("same", A), [])])
        self.assert_refused(BadChain, step, LAST[1:4])

    def test_a_chain_that_was_refused_stays(self):
        lines = LAST + [(([A], [B]), ("same", A), [])]
        kept = copy.deepcopy(lines)
        self.assert_refused(BadChain, step, lines)
        self.assert_refused(BadChain, taken_out, lines)
        self.assertEqual(lines, kept)

    def test_by_name(self):
        self.assertEqual(step(chain=SECOND[5:6] + [(([A], [A]), ("lemma", A), [0, 0])]), [SAME_A])


class TakenOutTest(TakingCase):
    def without(self, chain):
        """What is told of chain, being as the document says."""
        told = self.handed_in_stays(taken_out, chain)
        claim = chain[-1][0]
        self.assert_chain(told, claim, LEMMALESS + ("more",))
        self.assert_each_is_told(told)
        parts = {part for side in claim for f in side for part in plain_parts(f)}
        for one, _, _ in told:
            self.assertLessEqual({f for side in one for f in side}, parts)
        self.assertEqual(lemma_lines(told), [])
        self.assertIsNone(wrong_line(told))
        return told

    def test_each_of_the_chains(self):
        for chain in CHAINS:
            self.without(chain)

    def test_lemmas_with_formulas_of_no_part_of_the_last_claim(self):
        f = ("and", C, ("not", D))
        chain = [
            (([A, B], [A, f]), ("same", A), []),
            (([A, B, f], [A]), ("same", A), []),
            (([B, A], [A]), ("lemma", f), [0, 1]),
            (([AND], [A]), ("left", AND), [2]),
        ]
        told = self.without(chain)
        self.assertNotIn("99", str(told))

    def test_a_chain_without_lemma_lines(self):
        for chain in [[SAME_A], LAST[:2], LAST[2:3], UNUSED[5:6]]:
            self.without(chain)

    def test_lines_that_the_last_one_does_not_rest_on(self):
        for chain in [
            [SAME_A, SAME_A], LAST[:4], [SAME_A, (([B], [B]), ("same", B), [])],
            [SAME_A, (([A, B], [A]), ("more", ([A], [A])), [0]), SAME_A], LAST + [SAME_A], UNUSED,
            [(([B], [B]), ("same", B), []), SAME_A, (([A, B], [A]), ("more", ([A], [A])), [1])],
        ]:
            self.without(chain)

    def test_one_line_told_several_times(self):
        f = ("and", A, A)
        self.without([
            SAME_A, (([A], [f]), ("right", f), [0, 0]), (([A], [f, A]), ("more", ([A], [A])), [0]),
            (([A], [f]), ("lemma", A), [2, 1]),
        ])

    def test_made_chains(self):
        many = 0
        for seed in range(300):
            chain = made_chain(seed, "lemma" if seed % 3 == 0 else None)
            many += len(lemma_lines(chain)) > 2
            self.without(chain)
        self.assertGreater(many, 30)

    def test_lemmas_on_lemmas(self):
        claim = ([AND], [OR])
        chain = list(LAST)
        for f in FORMULAS:
            at = len(chain) - 1
            chain.append(((claim[0], claim[1] + [f]), ("more", claim), [at]))
            chain.append(((claim[0] + [f], claim[1]), ("more", claim), [at]))
            chain.append((claim, ("lemma", f), [at + 1, at + 2]))
        self.assertEqual(len(lemma_lines(chain)), 1 + len(FORMULAS))
        self.without(chain)

    def test_it_is_what_the_steps_come_to(self):
        for chain in CHAINS + [made_chain(seed, "lemma") for seed in range(60)]:
            told = chain
            while lemma_lines(told):
                told = step(told)
            self.assertEqual(taken_out(chain), told)

    def test_after_steps(self):
        for chain in (TWO, BESIDE, MIDDLE):
            self.without(step(chain))

    def test_refuses_what_is_no_chain(self):
        self.refuses_what_is_no_chain(taken_out)

    def test_tells_no_refusal_of_a_chain_without_lemma_lines(self):
        self.assertEqual(taken_out([SAME_A]), [SAME_A])

    def test_words_stay_within_the_limit(self):
        chain = [
            ((of_words(50) + [A, B], [A, OR]), ("same", A), []),
            ((of_words(50) + [AND], [A, OR]), ("left", AND), [0]),
            ((of_words(50) + [AND, A], [A, B]), ("same", A), []),
            ((of_words(50) + [AND, A], [OR]), ("right", OR), [2]),
            ((of_words(50) + [AND], [OR]), ("lemma", A), [1, 3]),
        ]
        self.without(chain)

    def test_by_name(self):
        self.assertEqual(taken_out(chain=[SAME_A]), [SAME_A])


if __name__ == "__main__":
    unittest.main()
