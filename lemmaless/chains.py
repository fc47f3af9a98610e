"""Chains: lists of lines that follow from lines ahead of them."""

from lemmaless.claims import claim_spelled
from lemmaless.errors import BadChain, BadClaim
from lemmaless.formulas import is_number
from lemmaless.rules import wanted


def wrong_line(lines):
    """The number of the first wrong line of a list, or None where there is none."""
    ahead = []
    for at, line in enumerate(lines):
        if not _follows(line, ahead):
            return at
        ahead.append(claim_spelled(line[0]))
    return None


def _follows(line, ahead):
    """Whether line follows, the claims of the lines ahead of it having these texts."""
    if not isinstance(line, tuple) or len(line) != 3:
        return False
    claim, rule, numbers = line
    if not isinstance(numbers, list):
        return False
    try:
        asked = wanted(claim, rule)
    except BadClaim:
        return False
    if asked is None or len(asked) != len(numbers):
        return False
    return all([_tells(n, other, ahead) for n, other in zip(numbers, asked)])


def _tells(n, claim, ahead):
    """Whether n is the number of a line ahead whose claim is alike to this one."""
    # A wanted claim may be too long for a claim that is handed in, so alike would refuse it.
    return is_number(n) and 0 <= n < len(ahead) and ahead[n] == claim_spelled(claim)


def lemma_lines(chain):
    """The list of the numbers of the chain's lemma lines, rising."""
    if not isinstance(chain, list) or len(chain) == 0 or wrong_line(chain) is not None:
        raise BadChain("this is no chain")
    return [at for at, line in enumerate(chain) if line[1][0] == "lemma"]
