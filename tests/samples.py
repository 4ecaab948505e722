"""Values that several tests use, and what tells whether a call changed its arguments."""

import copy
import unittest

# What is no term, no body and no kernel, whatever stands around it.
STRANGE = (
    None, True, False, -1, 65536, 10 ** 19, "", "A", "a1", "a b", "abcdefghi", "x" * 9000,
    [], {}, (), [1], {"a": 1}, (1,), ("a", "b"), ("set",), (None, None, None),
)


def nested_term(levels, sign="+"):
    """Return a term with this many operators within one another, always in the second place."""
    term = "a"
    for _ in range(levels):
        term = (sign, 1, term)
    return term


def nested_left(levels, sign="+"):
    """Return a term with this many operators within one another, always in the first place."""
    term = "a"
    for _ in range(levels):
        term = (sign, term, 1)
    return term


def deep(levels, make, inside):
    """Return a value with `make` around it so many times."""
    thing = inside
    for _ in range(levels):
        thing = make(thing)
    return thing


class Case(unittest.TestCase):
    """A test case whose calls must leave their arguments as they were."""

    def call(self, function, *arguments):
        """Return the answer of a call; fail if an argument was changed, also when the call raises."""
        before = copy.deepcopy(arguments)
        try:
            return function(*arguments)
        finally:
            self.assertEqual(repr(before), repr(arguments))

    def is_true(self, function, *arguments):
        self.assertIs(self.call(function, *arguments), True, repr(arguments)[:200])

    def is_false(self, function, *arguments):
        self.assertIs(self.call(function, *arguments), False, repr(arguments)[:200])

    def fails(self, error, function, *arguments):
        """Fail unless the call raises just this class of error."""
        with self.assertRaises(error, msg=repr(arguments)[:200]) as caught:
            self.call(function, *arguments)
        self.assertIs(caught.exception.__class__, error, repr(arguments)[:200])
