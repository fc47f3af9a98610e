"""Formulas, claims, what is no formula, claim or rule, and worlds, for the tests."""

from itertools import product

A = ("sign", 0)
B = ("sign", 1)
C = ("sign", 2)
D = ("sign", 99)
NOT_A = ("not", A)
AND = ("and", A, B)
OR = ("or", A, B)
THEN = ("then", A, B)

ONE_WORDS = ("not",)
TWO_WORDS = ("and", "or", "then")


def small_formulas(deep, signs=(0, 1)):
    """All formulas over these signs with at most so many within one another."""
    rows = [("sign", n) for n in signs]
    for _ in range(deep - 1):
        rows = (
            [("sign", n) for n in signs]
            + [("not", f) for f in rows]
            + [(word, f, g) for word in TWO_WORDS for f, g in product(rows, rows)]
        )
    return rows


def worlds(signs):
    """All worlds over these signs."""
    return [
        [n for n, told in zip(signs, row) if told]
        for row in product([False, True], repeat=len(signs))
    ]


def wrapped_once(thing, beside=A):
    """The tuples that a formula would be, had they not thing at one of their places."""
    rows = [("not", thing)]
    for word in TWO_WORDS:
        rows.append((word, thing, beside))
        rows.append((word, beside, thing))
    return rows


def chains_around(thing, times):
    """Tuples in which thing stands so many deep: along each place, and two from place to place."""
    rows = []
    for at in range(len(wrapped_once(thing))):
        inner = thing
        for _ in range(times):
            inner = wrapped_once(inner)[at]
        rows.append(inner)
    for turn in (1, 3):
        inner = thing
        for k in range(times):
            around = wrapped_once(inner)
            inner = around[(k * turn) % len(around)]
        rows.append(inner)
    return rows


def full(deep, word="and", leaf=A):
    """A formula with so many within one another at each of its places."""
    f = leaf
    for _ in range(deep - 1):
        f = (word, f, f)
    return f


# No formulas, and none of these makes one where it stands in another.
NO_FORMULAS = [
    # no tuples
    0, 1, -1, 99, 10 ** 30, True, False, None, 1.0, "", "sign", "not", "a", b"sign",
    [], {}, set(), object(), ["sign", 1], ["not", A], ["and", A, B], {"sign": 1},
    # tuples too short, too long, or empty
    (), ("sign",), ("sign", 1, 2), ("sign", 1, A), ("sign", 1, None),
    ("not",), ("not", A, B), ("not", A, None), ("not", A, A),
    ("and",), ("and", A), ("and", A, B, C), ("and", A, B, None),
    ("or",), ("or", A), ("or", A, B, C), ("or", A, B, None),
    ("then",), ("then", A), ("then", A, B, C), ("then", A, B, None),
    # another word
    ("nor", A, B), ("xor", A, B), ("if", A, B), ("implies", A, B), ("", A), ("", A, B), ("", 1),
    ("Sign", 1), ("SIGN", 1), ("signs", 1), ("sig", 1), ("sign ", 1), ("atom", 1),
    ("Not", A), (" not", A), ("non", A), ("no", A), ("AND", A, B), ("an", A, B), ("&", A, B),
    ("Or", A, B), ("THEN", A, B), ("the", A, B), ("thens", A, B),
    # a word that is no text
    (1, 1), (None, 1), (True, A), (b"sign", 1), (b"not", A), (b"and", A, B), (A, B), (A, A, B),
    (["sign"], 1), (("sign",), 1), ({}, A), (0, A, B), (1.5, A),
    # a sign whose number is none, or too small or too large
    ("sign", True), ("sign", False), ("sign", None), ("sign", "1"), ("sign", ""), ("sign", b"1"),
    ("sign", A), ("sign", 1.0), ("sign", 0.5), ("sign", [1]), ("sign", (1,)), ("sign", {}),
    ("sign", -1), ("sign", 100), ("sign", -99), ("sign", 10 ** 40), ("sign", -10 ** 40),
    # a number, truth, text or None in place of a formula; a list in place of a tuple
    ("not", 1), ("not", True), ("not", "sign"), ("not", None), ("not", "a"), ("not", 0),
    ("not", ["sign", 1]), ("and", ["sign", 1], A), ("and", A, ["sign", 1]),
    ("and", 1, 2), ("and", A, True), ("and", False, A), ("or", A, "b"), ("or", None, A),
    ("then", 3, A), ("then", A, None),
    # the word of one with the inside of another
    ("sign", A, B), ("not", 5), ("and", 5), ("then", 7),
]


def nots(words):
    """A formula of so many words, at most twelve."""
    f = A
    for _ in range(words - 1):
        f = ("not", f)
    return f


def of_words(words):
    """A list of formulas with so many words in all, as few formulas as can be."""
    rows = [nots(12) for _ in range(words // 12)]
    if words % 12:
        rows.append(nots(words % 12))
    return rows


NO_CLAIMS = [
    # no tuple
    None, True, False, 0, 2, "", "ab", [], {}, set(), object(), 1.5,
    [[], []], [[A], [B]], {0: [A], 1: [B]}, {"left": [], "right": []},
    # a tuple of one, of three, or empty
    (), ([],), ([A],), ([], [], []), ([A], [B], [C]), ([A], [B], None),
    # a formula, and a line, are no claims
    A, ("not", A), ("and", A, B), (([A], [A]), ("same", A), []),
    # a side that is no list
    ((), []), ([], ()), ((), ()), ((A,), [B]), ([A], (B,)), ((A,), (B,)), (A, [B]), ([A], B),
    (None, []), ([], None), ("", []), ([], ""), ("ab", "cd"), ({}, []), ([], {}), (0, []), ([], 0),
    (True, []), ([], False), ({A: 1}, []), ([], {A}),
    # formulas that stand one list deeper
    ([[A]], []), ([], [[B]]), ([[]], []), ([], [[]]),
]


def claims_around(thing):
    """Claims, had they not thing at one of the places of their sides."""
    rows = [([thing], []), ([], [thing]), ([thing], [A]), ([A], [thing])]
    for at in range(3):
        side = [A, B]
        side.insert(at, thing)
        rows.append((side, [C]))
        rows.append(([C], side))
        rows.append((side, []))
        rows.append(([], side))
    return rows


def too_long():
    """Claims but for their words, of which there are more than sixty."""
    rows = [
        ([A] * 61, []), ([], [A] * 61), ([A] * 30, [A] * 31), ([A] * 31, [B] * 30),
        (of_words(61), []), ([], of_words(61)), (of_words(60), [A]), ([A], of_words(60)),
        ([("sign", n) for n in range(61)], []), ([], [("sign", n) for n in range(61)]),
        ([full(6)], []), ([], [full(12)]), ([full(5)], [full(5)]), ([full(5), full(5)], []),
        ([A] * 1000, [B] * 1000),
    ]
    for word in ("and", "or", "then"):
        # Three words each, so sixty in twenty, and three more.
        rows.append(([(word, A, B)] * 21, []))
        rows.append(([(word, A, B)] * 10, [(word, A, B)] * 10 + [C]))
    return rows


# No rules, whatever the claim.
NO_RULES = [
    # no tuple
    None, True, False, 0, 1, "", "same", "left", "lemma", [], {}, set(), object(), 1.5,
    ["same", A], ["left", AND], ["right", AND], ["more", ([A], [A])], ["lemma", A], {"same": A},
    # too short, too long, or empty
    (), ("same",), ("left",), ("right",), ("more",), ("lemma",),
    ("same", A, A), ("same", A, B), ("same", A, None), ("left", AND, A), ("left", AND, None),
    ("right", AND, A), ("right", AND, []), ("lemma", A, B), ("lemma", A, None),
    ("more", ([A], [A]), []), ("more", [A], [A]), ("more", ([A], [A]), ([A], [A])), (A, AND, A),
    # another word
    ("", A), ("Same", A), ("same ", A), ("sam", A), ("LEFT", AND), ("lefts", AND), ("lef", AND),
    ("Right", AND), ("righ", AND), ("cut", A), ("lemmas", A), ("Lemma", A), ("lemm", A),
    ("most", ([A], [A])), ("less", ([A], [A])), ("More", ([A], [A])), ("mor", ([A], [A])),
    ("not", A), ("sign", 0), ("and", AND), ("axiom", A), ("chain", A), ("claim", ([A], [A])),
    # a word that is no text
    (None, A), (True, A), (0, A), (1, AND), (b"same", A), (b"left", AND), (A, A), (("same",), A),
    (["same"], A), ({"same"}, A), (1.5, ([A], [A])), ({}, A),
    # a claim in place of a formula, and a formula in place of a claim
    ("same", ([A], [A])), ("left", ([AND], [AND])), ("right", ([AND], [AND])),
    ("lemma", ([A], [A])), ("lemma", ([], [])), ("more", A), ("more", AND), ("more", NOT_A),
]
