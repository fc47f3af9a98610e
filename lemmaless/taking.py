"""Taking out lemmas: the first one, and all of them."""

from lemmaless.chains import lemma_lines
from lemmaless.errors import NoLemma
from lemmaless.search import decided


def step(chain):
    """A chain of the same claim, the first lemma line of this one taken out."""
    numbers = lemma_lines(chain)
    if not numbers:
        raise NoLemma("this chain has no lemma line")
    return _taken_out_at(chain, numbers[:1])


def taken_out(chain):
    """A chain of the same claim without lemma lines, each line but the last told later on."""
    # Each step puts in lines that rest on no others, so that all of them can be taken at once.
    return _taken_out_at(chain, lemma_lines(chain))


def _taken_out_at(chain, numbers):
    """A chain of the same claim, the lemma lines of these numbers taken out."""
    lemmas = {at: True for at in numbers}
    needed = _needed_lines(chain, lemmas)
    lines = []
    places = {}
    for at, line in enumerate(chain):
        if at in needed:
            if at in lemmas:
                lines.extend(_lines_without_lemma(line, len(lines)))
            else:
                lines.append(_led_on(line, places))
            places[at] = len(lines) - 1
    return lines


def _needed_lines(chain, lemmas):
    """The numbers of the lines that the last one rests on, where lemmas rest on none."""
    needed = {len(chain) - 1: True}
    for at in reversed(range(len(chain))):
        if at in needed and at not in lemmas:
            for n in chain[at][2]:
                needed[n] = True
    return needed


def _lines_without_lemma(line, start):
    """A chain of the line's claim by same, left and right, its numbers counted from start."""
    # A line of a chain holds in every world, so what is told of its claim is a chain.
    lines = decided(line[0])[1]
    return [(claim, rule, [start + n for n in numbers]) for claim, rule, numbers in lines]


def _led_on(line, places):
    """A new line, its list telling the places that the lines have gone to."""
    claim, rule, numbers = line
    if rule[0] == "more":
        rule = ("more", _copied(rule[1]))
    return _copied(claim), rule, [places[n] for n in numbers]


def _copied(claim):
    return list(claim[0]), list(claim[1])
