"""What the document says, worked out plainly, to hold the program's answers against."""

from tests.samples import worlds


def plain_parts(f):
    """The parts of f, worked out by the words of the document."""
    rows = [f]
    if f[0] != "sign":
        for inner in f[1:]:
            rows = rows + plain_parts(inner)
    return [row for at, row in enumerate(rows) if row not in rows[:at]]


def plain_truth(f, world):
    """Whether f is true in world, worked out by a table for each word."""
    if f[0] == "sign":
        return f[1] in world
    told = tuple(plain_truth(inner, world) for inner in f[1:])
    if f[0] == "not":
        return told == (False,)
    true_cases = {
        "and": [(True, True)],
        "or": [(True, True), (True, False), (False, True)],
        "then": [(False, False), (False, True), (True, True)],
    }
    return told in true_cases[f[0]]


def sides(claim):
    """What stands left and right, without order, each once."""
    left, right = claim
    return frozenset(left), frozenset(right)


def as_claim(told_sides):
    """A claim with these sides, told in one and the same order each time."""
    left, right = told_sides
    return sorted(left, key=str), sorted(right, key=str)


def plain_words(claim):
    """How many words a claim has."""
    text = str(claim)
    return sum(text.count(f"'{word}'") for word in ("sign", "not", "and", "or", "then"))


def signs_of(claim):
    """The numbers of the signs that stand in a claim."""
    left, right = claim
    return sorted({part[1] for f in left + right for part in plain_parts(f) if part[0] == "sign"})


def plain_holds(claim, world):
    left, right = claim
    return not (
        all(plain_truth(f, world) for f in left) and not any(plain_truth(f, world) for f in right)
    )


def plain_always(claim):
    """Whether a claim holds in every world."""
    return all(plain_holds(claim, world) for world in worlds(signs_of(claim)))


def plain_wanted(claim, rule):
    """The sides of the claims that a rule of one of the five forms wants, or None."""
    left, right = sides(claim)
    word, f = rule
    if word == "same":
        return [] if f in left and f in right else None
    if word == "more":
        less = sides(f)
        return [less] if less[0] <= left and less[1] <= right else None
    if word == "lemma":
        return [(left, right | {f}), (left | {f}, right)]
    if f not in (left if word == "left" else right) or f[0] == "sign":
        return None
    g, h = f[1], f[-1]
    less_left, less_right = left - {f}, right - {f}
    told = {
        ("left", "not"): [(less_left, right | {g})],
        ("left", "and"): [(less_left | {g, h}, right)],
        ("left", "or"): [(less_left | {g}, right), (less_left | {h}, right)],
        ("left", "then"): [(less_left, right | {g}), (less_left | {h}, right)],
        ("right", "not"): [(left | {g}, less_right)],
        ("right", "and"): [(left, less_right | {g}), (left, less_right | {h})],
        ("right", "or"): [(left, less_right | {g, h})],
        ("right", "then"): [(left | {g}, less_right | {h})],
    }
    return told[word, f[0]]


def plain_follows(lines, at):
    """Whether line at follows, all its things being of the right kinds."""
    claim, rule, numbers = lines[at]
    asked = plain_wanted(claim, rule)
    if asked is None or len(asked) != len(numbers):
        return False
    return all(
        0 <= n < at and sides(lines[n][0]) == told for n, told in zip(numbers, asked)
    )


def plain_wrong(lines):
    """The number of the first line that does not follow, or None."""
    for at in range(len(lines)):
        if not plain_follows(lines, at):
            return at
    return None


def rested_on(lines, without=None):
    """The numbers of the lines that the last one rests on, and its own, rising.

    The line without, if one is named, is taken to rest on nothing.
    """
    found = {len(lines) - 1}
    for at in range(len(lines) - 1, -1, -1):
        if at in found and at != without:
            found.update(lines[at][2])
    return sorted(found)
