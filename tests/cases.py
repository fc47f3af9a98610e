"""What several tests ask of claims, chains and lists that are told."""

import unittest

from lemmaless.errors import LineError
from tests.plain import plain_follows, plain_words, sides

LEMMALESS = ("same", "left", "right")


def lists_in(thing):
    """All lists in a thing, as often as they stand there."""
    rows = [thing] if isinstance(thing, list) else []
    if isinstance(thing, (list, tuple)):
        for inner in thing:
            rows = rows + lists_in(inner)
    return rows


def spoil(thing):
    """Change all lists in a thing."""
    for row in lists_in(thing):
        row.clear()
        row.append("spoilt")


class LineCase(unittest.TestCase):
    def assert_new_lists(self, told, *handed_in):
        """Each list that was told is its own, and none that was handed in."""
        numbers = [id(row) for row in lists_in(told)]
        self.assertEqual(len(numbers), len(set(numbers)), told)
        old = [id(row) for thing in handed_in for row in lists_in(thing)]
        self.assertFalse(set(numbers) & set(old), told)

    def assert_told_once(self, claim):
        """Each formula of a claim stands once on a side."""
        self.assertIs(claim.__class__, tuple)
        self.assertEqual(len(claim), 2)
        for side in claim:
            self.assertIs(side.__class__, list)
            self.assertEqual(len(side), len(set(side)), claim)

    def assert_chain(self, lines, claim, rules=("same", "left", "right", "more", "lemma")):
        """The lines are a chain of a claim alike to this one, by these rules alone."""
        self.assertIs(lines.__class__, list)
        self.assertTrue(lines)
        for at, line in enumerate(lines):
            self.assertIs(line.__class__, tuple)
            self.assertEqual(len(line), 3)
            told, rule, numbers = line
            self.assertEqual([side.__class__ for side in told], [list, list])
            self.assertLessEqual(plain_words(told), 60)
            self.assertIn(rule[0], rules)
            self.assertIs(numbers.__class__, list)
            for n in numbers:
                self.assertIs(n.__class__, int)
            self.assertTrue(plain_follows(lines, at), (at, line))
        self.assertEqual(sides(lines[-1][0]), sides(claim))

    def assert_each_is_told(self, lines):
        """Each line but the last is told by a later one."""
        told = {n for _, _, numbers in lines for n in numbers}
        self.assertEqual(told, set(range(len(lines) - 1)))

    def assert_refused(self, error, function, *told):
        """The function refuses with this class, and none under it."""
        with self.assertRaises(LineError, msg=told) as caught:
            function(*told)
        self.assertIs(caught.exception.__class__, error, told)
