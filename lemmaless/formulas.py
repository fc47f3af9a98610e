"""Formulas, their parts, and where they are true."""

from lemmaless.errors import BadFormula

MOST_SIGN = 99
MOST_DEEP = 12
MOST_WORDS = 60

MANY_INNER = {"not": 1, "and": 2, "or": 2, "then": 2}


def is_number(thing):
    """Whether thing is a whole number; True and False are none."""
    return isinstance(thing, int) and not isinstance(thing, bool)


def is_formula(thing):
    """Whether thing is a formula."""
    return _is_formula_of(thing, MOST_DEEP)


def _is_formula_of(thing, deep):
    """Whether thing is a formula in which at most so many stand within one another."""
    if deep == 0 or not isinstance(thing, tuple) or len(thing) == 0:
        return False
    word = thing[0]
    if not isinstance(word, str):
        return False
    if word == "sign":
        return len(thing) == 2 and _is_sign(thing[1])
    if word not in MANY_INNER or len(thing) != 1 + MANY_INNER[word]:
        return False
    return all([_is_formula_of(inner, deep - 1) for inner in thing[1:]])


def _is_sign(thing):
    return is_number(thing) and 0 <= thing <= MOST_SIGN


def refuse_no_formula(thing):
    """Raise BadFormula where thing is no formula."""
    if not is_formula(thing):
        raise BadFormula("this is no formula")


def inner_formulas(f):
    """The formulas that stand straight in the formula f, as a tuple."""
    if f[0] == "sign":
        return ()
    return f[1:]


def words(f):
    """How many words the formula f has."""
    return 1 + sum([words(inner) for inner in inner_formulas(f)])


def spelled(f):
    """A text that is the formula f's own."""
    # Formulas lie too deep within one another to be members of a set or keys of a dict.
    if f[0] == "sign":
        return str(f[1])
    inside = ",".join([spelled(inner) for inner in inner_formulas(f)])
    return f"{f[0]}({inside})"


def parts(f):
    """The list of f's parts: f, then those of the formulas in it, each where it stands first."""
    refuse_no_formula(f)
    found = {}
    _find_parts(f, found)
    return list(found.values())


def _find_parts(f, found):
    """Put the parts of f that found lacks into it, by their texts."""
    text = spelled(f)
    if text in found:
        # Its own parts were all found behind it, when it stood first.
        return
    found[text] = f
    for inner in inner_formulas(f):
        _find_parts(inner, found)


def truth(f, world):
    """Whether f is true where the signs that world lists are, and no others."""
    refuse_no_formula(f)
    # True would else be taken for the sign 1, and False for the sign 0.
    return _is_true(f, {n: True for n in world if is_number(n)})


def _is_true(f, true_signs):
    word = f[0]
    if word == "sign":
        return f[1] in true_signs
    told = [_is_true(inner, true_signs) for inner in inner_formulas(f)]
    if word == "not":
        return not told[0]
    if word == "and":
        return told[0] and told[1]
    if word == "or":
        return told[0] or told[1]
    return not told[0] or told[1]
