import copy
import random
import unittest
from itertools import combinations, permutations, product

from lemmaless.chains import lemma_lines, wrong_line
from lemmaless.errors import BadChain
from lemmaless.rules import wanted
from tests.cases import LineCase, spoil
from tests.making import FORMULAS, made_chain
from tests.plain import plain_always, plain_follows, plain_holds, plain_wrong, signs_of
from tests.samples import (
    A, AND, B, C, D, NOT_A, NO_CLAIMS, NO_FORMULAS, NO_RULES, OR, THEN, claims_around, full,
    of_words, too_long, worlds,
)

# That of A and B each shows the other way round, with a lemma that is of no need.
CHAIN = [
    (([A], [A]), ("same", A), []),
    (([B], [B]), ("same", B), []),
    (([A, B], [B]), ("more", ([B], [B])), [1]),
    (([B, A], [A]), ("more", ([A], [A])), [0]),
    (([A, B], [("and", B, A)]), ("right", ("and", B, A)), [2, 3]),
    (([AND], [("and", B, A)]), ("left", AND), [4]),
    (([AND], [("and", B, A), C]), ("more", ([AND], [("and", B, A)])), [5]),
    (([AND, C], [("and", B, A)]), ("more", ([AND], [("and", B, A)])), [5]),
    (([AND], [("and", B, A)]), ("lemma", C), [6, 7]),
]
# Sides of sixty words in all.
LONG = ([("sign", n) for n in range(30)], [("sign", n) for n in range(29, 59)])


def with_line(at, line):
    """The chain with another line in the place of one of its lines."""
    lines = copy.deepcopy(CHAIN)
    lines[at] = line
    return lines


class WrongLineTest(LineCase):
    def wrong(self, at, *lines):
        """The first wrong one of these lines has this number."""
        rows = list(lines)
        kept = repr(rows)
        self.assertEqual(wrong_line(rows), at, rows)
        self.assertEqual(repr(rows), kept)

    def follows(self, *lines):
        rows = list(lines)
        kept = repr(rows)
        self.assertIsNone(wrong_line(rows), rows)
        self.assertEqual(repr(rows), kept)

    def test_a_chain(self):
        self.follows(*CHAIN)
        for at in range(len(CHAIN)):
            self.follows(*CHAIN[:at])

    def test_an_empty_list(self):
        self.assertIsNone(wrong_line([]))

    def test_made_chains(self):
        for seed in range(300):
            self.follows(*made_chain(seed))

    def test_a_line_that_is_none(self):
        claim, rule, numbers = CHAIN[0]
        for line in [
            None, True, 0, "", "abc", [], {}, set(), object(), (), (claim,), (claim, rule),
            (claim, rule, numbers, None), (claim, rule, numbers, numbers), [claim, rule, numbers],
            (claim, numbers, rule), (rule, claim, numbers), (None, None, None), claim, rule,
            (claim, (rule, numbers)), {0: claim, 1: rule, 2: numbers},
        ]:
            self.wrong(0, line)
            for at in range(len(CHAIN)):
                self.wrong(at, *with_line(at, line))

    def test_a_line_of_two_or_four_that_would_follow(self):
        for at, line in enumerate(CHAIN):
            self.wrong(at, *with_line(at, line[:2]))
            self.wrong(at, *with_line(at, line + ([],)))
            self.wrong(at, *with_line(at, list(line)))

    def test_a_claim_that_is_none(self):
        for thing in NO_CLAIMS + too_long():
            self.wrong(0, (thing, ("same", A), []))
            self.wrong(4, *with_line(4, (thing, ("right", ("and", B, A)), [2, 3])))
        for thing in NO_FORMULAS:
            for claim in claims_around(thing):
                self.wrong(0, (claim, ("same", A), []))

    def test_a_claim_of_sixty_words_and_one_of_sixty_one(self):
        self.follows((([A] * 30, [A] * 30), ("same", A), []))
        self.wrong(0, (([A] * 31, [A] * 30), ("same", A), []))
        self.wrong(0, (([A] * 30, [A] * 31), ("same", A), []))
        self.follows(((of_words(58) + [A], [A]), ("same", A), []))
        self.wrong(0, ((of_words(59) + [A], [A]), ("same", A), []))

    def test_a_rule_that_is_none(self):
        for rule in NO_RULES:
            for numbers in ([], [0], [0, 0]):
                self.wrong(1, CHAIN[0], (([A], [A]), rule, numbers))
        for word, thing in product(("same", "left", "right", "lemma", "more"), NO_FORMULAS):
            for numbers in ([], [0], [0, 0]):
                self.wrong(1, CHAIN[0], (([A], [A]), (word, thing), numbers))

    def test_a_rule_that_does_not_fit(self):
        for rule in [
            ("same", B), ("same", AND), ("left", A), ("right", A), ("left", AND), ("right", AND),
            ("more", ([B], [])), ("more", ([], [B])), ("more", ([A], [A, B])),
        ]:
            for numbers in ([], [0], [0, 0]):
                self.wrong(1, CHAIN[0], (([A], [A]), rule, numbers))
        self.wrong(0, (([A], [B]), ("same", A), []))
        self.wrong(0, (([A], [B]), ("same", B), []))

    def test_a_list_that_is_none(self):
        for numbers in [(), None, "", {}, set(), 0, False, True, range(0), object()]:
            self.wrong(0, (([A], [A]), ("same", A), numbers))
        for numbers in [(0,), (0, 1), None, "0", {0: 0}, {0}, 0, 1, True, range(1), ([0],), [[0]]]:
            self.wrong(1, CHAIN[0], (([A, B], [A]), ("more", ([A], [A])), numbers))
        for numbers in [(2, 3), {2: 3, 3: 2}, {2, 3}, range(2, 4), "23", b"23"]:
            self.wrong(4, *with_line(4, CHAIN[4][:2] + (numbers,)))

    def test_a_thing_that_is_no_number(self):
        line = CHAIN[2][:2]
        for thing in [True, "1", "", b"1", None, 1.0, [1], (1,), {}, A, 0.5, object()]:
            self.wrong(2, *CHAIN[:2], line + ([thing],))
        self.wrong(1, CHAIN[0], (([A, B], [A]), ("more", ([A], [A])), [False]))
        for numbers in [[2, None], [None, 3], [2, "3"], ["2", 3], [2, 3.0], [True, 3], [2, True]]:
            self.wrong(4, *with_line(4, CHAIN[4][:2] + (numbers,)))

    def test_a_thing_that_is_no_number_where_none_is_wanted(self):
        for thing in [True, False, None, "", "0", [], 0.0]:
            self.wrong(1, CHAIN[0], (([A], [A]), ("same", A), [thing]))

    def test_a_number_below_nought(self):
        # Counted from behind, these would tell the right lines.
        self.wrong(1, CHAIN[0], (([A, B], [A]), ("more", ([A], [A])), [-1]))
        self.wrong(2, *with_line(2, CHAIN[2][:2] + ([-1],)))
        self.wrong(4, *with_line(4, CHAIN[4][:2] + ([-2, -1],)))
        self.wrong(4, *with_line(4, CHAIN[4][:2] + ([2, 3 - len(CHAIN)],)))
        self.wrong(5, *with_line(5, CHAIN[5][:2] + ([-10 ** 30],)))

    def test_the_number_of_the_line_itself(self):
        self.wrong(0, (([A], [A]), ("more", ([A], [A])), [0]))
        self.wrong(1, CHAIN[0], (([A], [A]), ("more", ([A], [A])), [1]))
        self.wrong(1, CHAIN[0], (([A], [A]), ("lemma", A), [1, 1]))

    def test_the_number_of_a_later_line(self):
        later = [(([A, B], [A]), ("more", ([A], [A])), [1]), (([A], [A]), ("same", A), [])]
        self.wrong(0, *later)
        self.wrong(1, CHAIN[1], *[(claim, rule, [2] * len(numbers))
                                  for claim, rule, numbers in later])
        self.wrong(0, (([A], [A]), ("more", ([A], [A])), [1]), CHAIN[0])
        self.wrong(1, CHAIN[0], (([A], [A]), ("more", ([A], [A])), [2]))
        self.wrong(1, CHAIN[0], (([A], [A]), ("more", ([A], [A])), [10 ** 30]))

    def test_a_number_too_many_or_too_few(self):
        self.wrong(1, CHAIN[0], (([A], [A]), ("same", A), [0]))
        self.wrong(1, CHAIN[0], (([A, B], [A]), ("more", ([A], [A])), []))
        self.wrong(1, CHAIN[0], (([A, B], [A]), ("more", ([A], [A])), [0, 0]))
        self.wrong(1, CHAIN[0], (([A], [A]), ("lemma", A), []))
        self.wrong(1, CHAIN[0], (([A], [A]), ("lemma", A), [0]))
        self.follows(CHAIN[0], (([A], [A]), ("lemma", A), [0, 0]))
        self.wrong(1, CHAIN[0], (([A], [A]), ("lemma", A), [0, 0, 0]))
        for numbers in [[], [2], [3], [2, 3, 3], [2, 2, 3], [2, 3, 0], [0, 2, 3]]:
            self.wrong(4, *with_line(4, CHAIN[4][:2] + (numbers,)))
        for numbers in [[], [4, 4], [4, 0]]:
            self.wrong(5, *with_line(5, CHAIN[5][:2] + (numbers,)))

    def test_a_line_ahead_that_is_not_alike_to_the_wanted_one(self):
        for n in (0, 2, 3, 4):
            self.wrong(5, *with_line(5, (([B], [B, A]), ("more", ([B], [B])), [n])))
        for numbers in [[0, 3], [1, 3], [3, 3], [2, 2], [2, 0], [2, 1]]:
            self.wrong(4, *with_line(4, CHAIN[4][:2] + (numbers,)))

    def test_a_line_ahead_that_tells_more_or_less(self):
        rest = (([A, B], [A]), ("more", ([A], [A])), [0])
        self.follows((([A], [A]), ("same", A), []), rest)
        for claim in [([A, C], [A]), ([A], [A, C]), ([A, B], [A]), ([A], [A, B])]:
            self.wrong(1, (claim, ("same", A), []), rest)

    def test_the_right_lines_in_the_wrong_order(self):
        self.wrong(4, *with_line(4, CHAIN[4][:2] + ([3, 2],)))
        self.wrong(8, *with_line(8, CHAIN[8][:2] + ([7, 6],)))
        base = [(([A], [A, B]), ("same", A), []), (([B], [A, B]), ("same", B), [])]
        self.follows(*base, (([OR], [A, B]), ("left", OR), [0, 1]))
        self.wrong(2, *base, (([OR], [A, B]), ("left", OR), [1, 0]))

    def test_a_wanted_claim_in_another_order(self):
        f = ("not", B)
        left, right = [A, C, f], [D, A, B]
        for there, here in product(permutations(left), permutations(right)):
            self.follows(
                ((list(there), list(here)), ("same", A), []),
                (([C, f, A, NOT_A], [B, A, D]), ("more", (left, right)), [0]),
            )

    def test_a_wanted_claim_with_a_formula_told_twice(self):
        for left, right in [([A, A], [A]), ([A], [A, A]), ([A] * 5, [A] * 7)]:
            self.follows(
                ((left, right), ("same", A), []),
                (([A, B], [A]), ("more", ([A], [A])), [0]),
                (([A], [A, B]), ("more", (right, left)), [0]),
            )
        self.follows(
            (([A, B, A, B], [B, A, A]), ("same", A), []),
            (([B, AND, AND], [B, A, B]), ("left", AND), [0]),
        )

    def test_one_line_for_two_wanted_claims(self):
        f = ("and", A, A)
        self.follows(CHAIN[0], (([A], [f]), ("right", f), [0, 0]))

    def test_a_wanted_claim_of_more_than_sixty_words(self):
        self.follows((LONG, ("same", ("sign", 29)), []))
        less = ([("sign", n) for n in range(30)], [("sign", n) for n in range(29, 58)])
        for numbers in [[0, 0], [0, 1], [1, 1], [1, 0]]:
            self.wrong(2, (LONG, ("same", ("sign", 29)), []), (less, ("same", ("sign", 29)), []),
                       (LONG, ("lemma", D), numbers))
            self.wrong(2, (LONG, ("same", ("sign", 29)), []), (less, ("same", ("sign", 29)), []),
                       (LONG, ("lemma", full(12)), numbers))

    def test_the_first_of_several(self):
        wrong = (([A], [B]), ("same", A), [])
        for at in range(len(CHAIN)):
            lines = with_line(at, wrong)
            for other in range(at + 1, len(CHAIN)):
                lines[other] = wrong
                self.assertEqual(wrong_line(lines), at)
            lines[len(CHAIN) - 1:] = [None, None] if at < len(CHAIN) - 1 else [wrong, None]
            self.assertEqual(wrong_line(lines), at)

    def test_one_line_moved_about(self):
        for seed in range(60):
            chance = random.Random(seed)
            lines = made_chain(seed)
            for _ in range(20):
                rows = list(lines)
                at = chance.randrange(len(rows))
                claim, rule, numbers = rows[at]
                change = chance.randrange(4)
                if change == 0:
                    numbers = [chance.randrange(-2, len(rows) + 1) for _ in numbers]
                elif change == 1:
                    claim = chance.choice(rows)[0]
                elif change == 2:
                    rule = chance.choice(rows)[1]
                else:
                    numbers = numbers[::-1]
                rows[at] = (claim, rule, numbers)
                self.assertEqual(wrong_line(rows), plain_wrong(rows), rows)

    def test_by_name(self):
        self.assertIsNone(wrong_line(lines=CHAIN))


class LemmaLinesTest(LineCase):
    def test_none(self):
        self.assertEqual(lemma_lines(CHAIN[:8]), [])
        self.assertEqual(lemma_lines(CHAIN[:1]), [])

    def test_the_last(self):
        self.assertEqual(lemma_lines(CHAIN), [8])

    def test_several_rising(self):
        lines = [
            CHAIN[0],
            (([A], [A]), ("lemma", A), [0, 0]),
            CHAIN[1],
            (([A], [A]), ("lemma", A), [1, 0]),
            (([A, B], [A]), ("more", ([A], [A])), [3]),
            (([A], [A]), ("lemma", A), [1, 3]),
        ]
        self.assertEqual(lemma_lines(lines), [1, 3, 5])
        self.assertEqual(lemma_lines(lines[:5]), [1, 3])
        self.assertEqual(lemma_lines(lines[:3]), [1])

    def test_made_chains(self):
        for seed in range(200):
            lines = made_chain(seed)
            kept = copy.deepcopy(lines)
            told = [at for at in range(len(lines)) if lines[at][1][0] == "lemma"]
            self.assertEqual(lemma_lines(lines), told)
            self.assertEqual(lines, kept)

    def test_what_is_told_is_a_new_list(self):
        first = lemma_lines(CHAIN)
        self.assertIs(first.__class__, list)
        spoil(first)
        self.assertEqual(lemma_lines(CHAIN), [8])
        self.assertIsNone(wrong_line(CHAIN))
        self.assertIsNot(lemma_lines(CHAIN[:3]), lemma_lines(CHAIN[:3]))

    def test_refuses_what_is_no_list(self):
        for thing in [
            None, True, 0, "", "abc", (), tuple(CHAIN), {}, dict(enumerate(CHAIN)), set(), object(),
            CHAIN[0], A, ([A], [A]), iter(CHAIN),
        ]:
            self.assert_refused(BadChain, lemma_lines, thing)

    def test_refuses_an_empty_list(self):
        self.assert_refused(BadChain, lemma_lines, [])

    def test_refuses_a_list_with_a_wrong_line(self):
        for line in [None, (([A], [B]), ("same", A), []), (([A], [A]), ("same", A)), CHAIN[4]]:
            for at in range(4):
                self.assert_refused(BadChain, lemma_lines, with_line(at, line))
            self.assert_refused(BadChain, lemma_lines, [line])
        for thing in NO_CLAIMS + too_long():
            self.assert_refused(BadChain, lemma_lines, [(thing, ("same", A), [])])
            self.assert_refused(BadChain, lemma_lines, CHAIN + [(thing, ("lemma", A), [0, 0])])
        for rule in NO_RULES:
            self.assert_refused(BadChain, lemma_lines, CHAIN + [(([A], [A]), rule, [])])
        for numbers in [(), None, [True], ["0"], [-1], [1], [0, 0]]:
            lines = [CHAIN[0], (([A, B], [A]), ("more", ([A], [A])), numbers)]
            self.assert_refused(BadChain, lemma_lines, lines)

    def test_by_name(self):
        self.assertEqual(lemma_lines(chain=CHAIN), [8])


class HoldsEverywhereTest(LineCase):
    def test_each_line_of_chains_with_each_of_the_rules(self):
        seen = set()
        for seed in range(300):
            lines = made_chain(seed)
            self.assertIsNone(wrong_line(lines))
            for claim, rule, _ in lines:
                seen.add((rule[0], rule[1][0] if rule[0] in ("left", "right") else ""))
                for world in worlds(signs_of(claim)):
                    self.assertTrue(plain_holds(claim, world), (claim, world))
        words = ("not", "and", "or", "then")
        for rule in [(side, word) for side in ("left", "right") for word in words]:
            self.assertIn(rule, seen)
        for rule in ("same", "more", "lemma"):
            self.assertIn((rule, ""), seen)

    def test_what_follows_from_claims_that_hold_everywhere(self):
        rows = [A, B, NOT_A, AND, OR, THEN]
        some = [list(row) for many in range(3) for row in combinations(rows, many)]
        rules = [(word, f) for word in ("same", "left", "right", "lemma") for f in rows]
        for claim in product(some, some):
            always = plain_always(claim)
            for rule in rules:
                told = wanted(claim, rule)
                if told is not None and all(plain_always(one) for one in told):
                    self.assertTrue(always, (claim, rule))

    def test_a_claim_that_fails_somewhere_is_the_last_of_no_chain(self):
        # Each line ahead holds everywhere, so no list can make such a line follow.
        lines = [line for seed in range(20) for line in made_chain(seed) if not line[2]][:6]
        self.assertIsNone(wrong_line(lines))
        for claim in [([A], [B]), ([], []), ([OR], [A]), ([], [AND]), ([THEN], [B])]:
            rules = [(word, f) for word in ("same", "left", "right", "lemma") for f in FORMULAS[:9]]
            rules += [("more", other) for other, _, _ in lines]
            for rule in rules:
                for many in range(3):
                    for numbers in product(range(len(lines)), repeat=many):
                        rows = lines + [(claim, rule, list(numbers))]
                        self.assertFalse(plain_follows(rows, len(lines)))
                        self.assertEqual(wrong_line(rows), len(lines))


if __name__ == "__main__":
    unittest.main()
