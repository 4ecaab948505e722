"""Values that several tests use, and what tells whether a call changed its arguments."""

import copy
import unittest

from sideweave.alone import end, trace
from sideweave.errors import TooLong

# What is no term, no body and no kernel, whatever stands around it.
STRANGE = (
    None, True, False, -1, 65536, 10 ** 19, "", "A", "a1", "a b", "abcdefghi", "x" * 9000,
    [], {}, (), [1], {"a": 1}, (1,), ("a", "b"), ("set",), (None, None, None),
)

EXAMPLE = (("x",), (("if", "a", (("set", "x", 1), ("set", "x", ("+", "x", "b"))), (("set", "x", ("+", "x", "b")),)),))
LOOP = (("i",), (("while", ("<", "i", 2), (("set", "i", ("+", "i", 1)),)),))
SET_X = ("set", "x", 1)
SET_Y = ("set", "y", 2)

# What is no kernel, for functions that have other arguments, too.
NO_KERNELS = STRANGE + (
    EXAMPLE[1], [("x",), ()], (("x",), []), ((), ()), (("b", "a"), ()), (("x",), (("set", "x", True),)),
    (("x",), (SET_X,) * 25), (("x",), (("while", "a", [SET_X]),)), (("x",), (("if", "a", ()),)),
)
LETTERS = "abcdefghijklmnopqrstuvwxyz"
SIXTEEN = {letter: at for at, letter in enumerate(LETTERS[:16])}
SEVENTEEN = {letter: at for at, letter in enumerate(LETTERS[:17])}

# What no lane may start with.
NO_STARTS = (
    None, True, 0, "a", "", [], (), [("a", 1)], (("a", 1),), SEVENTEEN, {"a": None}, {"a": "b"}, {"a": True},
    {"a": False}, {"a": -1}, {"a": 65536}, {"a": [1]}, {"a": ("+", 1, 2)}, {"A": 1}, {"": 1}, {"abcdefghi": 1},
    {"a": 1, 0: 1}, {None: 1}, {("a",): 1}, {"a": 1, "b": 10 ** 19}, {"a b": 1}, {"a": {}},
)

# What is no launch.
NO_LAUNCHES = tuple([start] for start in NO_STARTS) + tuple([{}, start] for start in NO_STARTS) + (
    None, True, False, 0, 1, "a", "", (), {}, [], ({"a": 1},), ({},) * 3, {"a": 1}, {0: {}}, [{}] * 9, [[]], [[{}]],
    [{}, None], [None, {}], [{}, {}, {}, {}, {}, {}, {}, {"a": True}], [{"a": 1}] * 9, [{"a": 65536}] * 8,
)

# The weave of EXAMPLE that the document gives, and what is no weave of it.
WOVEN = (("split", (0,), (("set", (0,), "x", 1), ("set", (0, 1), "x", ("+", "x", "b")))),)
NO_WEAVES = STRANGE + (
    WOVEN[0], [WOVEN[0]], (list(WOVEN[0]),), WOVEN * 2, WOVEN[0][2], (("loop",) + WOVEN[0][1:],),
    (("split", (1,), WOVEN[0][2]),), (("split", (False,), WOVEN[0][2]),), (("split", [0], WOVEN[0][2]),),
    (("split", (0,), list(WOVEN[0][2])),), (("split", (0,), WOVEN[0][2][::-1]),), (("split", (0,), WOVEN[0][2][:1]),),
    (("split", (0,), WOVEN[0][2][1:]),), (("split", (0,), (("set", (0,), "x", True), WOVEN[0][2][1])),),
    (("split", (0,), (("set", (0,), "y", 1), WOVEN[0][2][1])),), WOVEN + (("set", (0,), "x", 1),),
)


def loop_rows(many):
    """Return a body whose trace has just so many rows, an odd number, the last one a test."""
    return (("while", ("<", "i", many // 2), (("set", "i", ("+", "i", 1)),)),)


def nested_term(levels, sign="+"):
    """Return a term with this many operators within one another, always in the second place."""
    term = "a"
    for _ in range(levels):
        term = (sign, 1, term)
    return term


def nested_left(levels, sign="+"):
    """Return a term with this many operators within one another, always in the first place."""
    term = "a"
    for _ in range(levels):
        term = (sign, term, 1)
    return term


def deep(levels, make, inside):
    """Return a value with `make` around it so many times."""
    thing = inside
    for _ in range(levels):
        thing = make(thing)
    return thing


def holders(thing):
    """Return all lists and dicts within a value, each as often as it stands there."""
    if isinstance(thing, dict):
        return [thing] + [inner for key in thing for inner in holders(thing[key])]
    if isinstance(thing, (list, tuple)):
        inner = [inner for part in thing for inner in holders(part)]
        return [thing] + inner if isinstance(thing, list) else inner
    return []


class Case(unittest.TestCase):
    """A test case whose calls must leave their arguments as they were, and return new lists and dicts."""

    def call(self, function, *arguments):
        """Return the answer of a call; fail if an argument was changed, also when the call raises."""
        before = copy.deepcopy(arguments)
        try:
            answer = function(*arguments)
        finally:
            self.assertEqual(repr(before), repr(arguments))
        old = [id(thing) for thing in holders(arguments)]
        new = [id(thing) for thing in holders(answer)]
        self.assertEqual(len(new), len(set(new)), "a list or dict stands twice in an answer")
        self.assertEqual(set(old) & set(new), set(), "a list or dict of an argument was returned")
        return answer

    def stays(self, function, *arguments):
        """Fail if a change of one answer is seen in the next one; return the answer."""
        first = self.call(function, *arguments)
        kept = copy.deepcopy(first)
        for thing in holders(first):
            thing.clear()
        again = self.call(function, *arguments)
        self.assertEqual(again, kept)
        return again

    def is_true(self, function, *arguments):
        self.assertIs(self.call(function, *arguments), True, repr(arguments)[:200])

    def is_false(self, function, *arguments):
        self.assertIs(self.call(function, *arguments), False, repr(arguments)[:200])

    def fails(self, error, function, *arguments):
        """Fail unless the call raises just this class of error."""
        with self.assertRaises(error, msg=repr(arguments)[:200]) as caught:
            self.call(function, *arguments)
        self.assertIs(caught.exception.__class__, error, repr(arguments)[:200])


class RunCase(Case):
    """A test case for what lanes do together."""

    def check_lanes(self, kernel, launch, ends, issues):
        """Check that the lanes of each issue ascend, and that each lane does what it does alone."""
        self.assertEqual(ends, [end(kernel, registers) for registers in launch])
        for lane, registers in enumerate(launch):
            self.assertEqual([row for row, lanes in issues if lane in lanes], trace(kernel, registers))
        for row, lanes in issues:
            self.assertIs(lanes.__class__, tuple)
            self.assertTrue(lanes)
            self.assertEqual(list(lanes), sorted(set(lanes)))

    def too_long(self, lane, *arguments):
        """Fail unless a call raises TooLong with this lane."""
        with self.assertRaises(TooLong) as caught:
            self.call(*arguments)
        self.assertEqual(caught.exception.lane, lane)
        self.assertIs(caught.exception.lane.__class__, lane.__class__)
