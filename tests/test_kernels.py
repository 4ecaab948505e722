"""Kernels, bodies and their sizes."""

import unittest

from samples import Case, STRANGE, deep, nested_left, nested_term
from sideweave import kernels
from sideweave.errors import NoKernel
from sideweave.kernels import is_body, is_kernel, size

SET = ("set", "x", 1)
EXAMPLE = (("x",), (("if", "a", (SET, ("set", "x", ("+", "x", "b"))), (("set", "x", ("+", "x", "b")),)),))
LOOP = (("i",), (("while", ("<", "i", 2), (("set", "i", ("+", "i", 1)),)),))


def first_if(inner):
    """Return a body with an if alone, and a body as its first one."""
    return (("if", "a", inner, ()),)


def second_if(inner):
    """Return a body with an if alone, and a body as its second one."""
    return (("if", "a", (), inner),)


def loop(inner):
    """Return a body with a while alone, and a body as its own."""
    return (("while", "a", inner),)


def within(makers, inner=()):
    """Return a body in bodies, the one of the first maker outside."""
    for maker in reversed(makers):
        inner = maker(inner)
    return inner


NESTS = (first_if, second_if, loop)
RIGHT_STATEMENTS = (
    SET, ("set", "end", ("+", "if", 1)), ("set", "x", nested_term(4)), ("set", "abcdefgh", 65535),
    ("if", "a", (SET,), (SET,)), ("if", 0, (), ()), ("if", nested_left(4), (SET, SET), ()),
    ("while", "a", (SET,)), ("while", 1, ()), ("while", ("<", "i", 2), (SET, SET)),
)
WRONG_STATEMENTS = (
    None, True, 0, 1, "set", "x", (), [], {}, {"set": 1},
    # Sets with a wrong length, word, name or term.
    ("set",), ("set", "x"), ("set", "x", 1, 2), ("set", "x", 1, ()), ["set", "x", 1],
    ("Set", "x", 1), ("sets", "x", 1), ("", "x", 1), (None, "x", 1), (0, "x", 1), (True, "x", 1),
    (("set",), "x", 1), (["set"], "x", 1), ("test", "x"), ("test", "x", 1), ("x", "set", 1), ("set", 1, "x"),
    ("set", "X", 1), ("set", "", 1), ("set", "abcdefghi", 1), ("set", "x1", 1), ("set", 5, 1), ("set", None, 1),
    ("set", ("x",), 1), ("set", True, 1), ("set", ("+", "x", 1), 1),
    ("set", "x", -1), ("set", "x", 65536), ("set", "x", True), ("set", "x", False), ("set", "x", None),
    ("set", "x", "X"), ("set", "x", [1]), ("set", "x", ("+", 1)), ("set", "x", ("/", 1, 2)),
    ("set", "x", ["+", 1, 2]), ("set", "x", nested_term(5)), ("set", "x", nested_left(5)), ("set", "x", ()),
    ("set", "x", (SET,)),
    # Ifs with a wrong length, word, term or body.
    ("if",), ("if", "a"), ("if", "a", ()), ("if", "a", (), (), ()), ["if", "a", (), ()],
    ("IF", "a", (), ()), ("elif", "a", (), ()), ("split", "a", (), ()), ("set", "a", (), ()),
    ("if", "A", (), ()), ("if", 65536, (), ()), ("if", -1, (), ()), ("if", True, (), ()), ("if", None, (), ()),
    ("if", (), (), ()), ("if", ("<", "a"), (), ()), ("if", ["<", "a", 1], (), ()), ("if", nested_term(5), (), ()),
    ("if", "a", [], ()), ("if", "a", (), []), ("if", "a", [SET], ()), ("if", "a", (), [SET]),
    ("if", "a", None, ()), ("if", "a", (), None), ("if", "a", SET, ()), ("if", "a", (), SET),
    ("if", "a", 1, ()), ("if", "a", (), 1), ("if", "a", "b", ()), ("if", "a", (), "b"),
    ("if", "a", {}, ()), ("if", "a", (), {}),
    # Whiles with a wrong length, word, term or body.
    ("while",), ("while", "a"), ("while", "a", (), ()), ["while", "a", ()],
    ("whiles", "a", ()), ("for", "a", ()), ("loop", "a", ()), (("while",), "a", ()),
    ("while", "A", ()), ("while", 65536, ()), ("while", True, ()), ("while", None, ()), ("while", (), ()),
    ("while", nested_left(5), ()), ("while", ["<", "a", 1], ()),
    ("while", "a", []), ("while", "a", [SET]), ("while", "a", SET), ("while", "a", None), ("while", "a", 1),
    ("while", "a", "b"), ("while", "a", {}),
)
RIGHT_OUTPUTS = (
    ("a",), ("a", "b"), ("a", "aa", "ab", "b"), tuple("abcdefgh"), ("abcdefgh", "z"), ("abcdefgh", "abcdefgz"),
    ("else", "end", "if"),
)
WRONG_OUTPUTS = (
    (), tuple("abcdefghi"), ("a",) * 3000,
    ("a", "a"), ("a", "b", "b"), ("a", "a", "b"), ("a", "b", "a"), ("b", "a"), ("a", "c", "b"), ("aa", "a"),
    ["a"], ["a", "b"], [], {}, {"a": 1}, "a", "ab", None, True, 1, 0,
    ("A",), ("",), ("a1",), ("abcdefghi",), ("\u00e9",), (1,), (None,), (True,), (("a",),), (["a"],),
    ("a", None), (None, "a"), ("a", 1), (1, "a"), ("a", "{"), ("B", "a"), ("", "a"), ("a", ("b",)), (("a", "b"),),
    (("+", "a", 1),),
)
WRONG_KERNELS = STRANGE + (
    (("x",),), (("x",), (), ()), [("x",), ()], (["x"], ()), [["x"], []], (("x",), [SET]), (("x",), []),
    ((SET,), ("x",)), ((), ()), (("x",), SET), (("x",), None), (("x",), "x"), (("x",), {}), (("x",), 1),
    (None, (SET,)), ("x", (SET,)), (SET,), (("x",), ("x",)), {"x": ()}, {("x",): ()}, "kernel",
    EXAMPLE[1], (EXAMPLE,), (EXAMPLE, EXAMPLE), (("b", "a"), ()), ((), (SET,)), (("x",), (SET,) * 25),
    (("x",), within((loop, loop, loop, loop))), (("x",), within((first_if, first_if, second_if))),
)
SIZES = (
    ((), 0), ((SET,), 1), ((SET, SET), 2), ((SET,) * 24, 24), (loop(()), 1), (first_if(()), 1), (second_if((SET,)), 2),
    (within((loop, first_if, second_if), (SET, SET)), 5), (loop((SET,) * 23), 24),
    ((("if", "a", (SET, SET), (SET,) + loop((SET,))),) + loop(first_if((SET,))) + (SET,), 10),
)


class BodyCase(Case):
    def both(self, answer, body):
        """Check a body alone, and as the body of a kernel."""
        check = self.is_true if answer else self.is_false
        check(is_body, body)
        check(is_kernel, (("x",), body))


class Bodies(BodyCase):
    def test_interface(self):
        for function in (is_kernel, is_body, size):
            self.assertEqual(function.__module__, kernels.__name__)

    def test_each_kind_of_statement(self):
        for statement in RIGHT_STATEMENTS:
            self.both(True, (statement,))
            self.both(True, (SET, statement, SET))

    def test_empty_bodies(self):
        self.both(True, ())
        for nest in NESTS:
            self.both(True, nest(()))

    def test_wrong_statements(self):
        for statement in WRONG_STATEMENTS:
            self.both(False, (statement,))
            self.both(False, (SET, statement))
            self.both(False, (statement, SET))

    def test_wrong_statements_deep_within_a_body(self):
        for statement in WRONG_STATEMENTS:
            for nest in NESTS:
                self.both(False, nest((statement,)))
            self.both(False, within((first_if, second_if, loop), (SET, statement)))
            self.both(False, within((loop, loop, second_if), (statement, SET)))

    def test_other_values_are_no_body(self):
        for thing in STRANGE:
            if thing != ():
                self.both(False, thing)
        for thing in ([SET], {0: SET}, SET, "set", (SET, None), (SET, [SET]), (SET, ()), ((SET,),), EXAMPLE):
            self.both(False, thing)

    def test_deep_values_are_no_body(self):
        for make in (lambda thing: (thing,), lambda thing: [thing], lambda thing: {1: thing}):
            self.both(False, deep(36, make, SET))
        for nest in NESTS:
            self.both(False, deep(12, nest, (SET,)))


class Limits(BodyCase):
    def test_twenty_four_sets_and_twenty_five(self):
        self.both(True, (SET,) * 24)
        self.both(False, (SET,) * 25)
        self.both(False, (SET,) * 3000)

    def test_statements_within_statements_count(self):
        for nest in NESTS:
            self.both(True, nest((SET,) * 23))
            self.both(False, nest((SET,) * 24))
            self.both(True, (SET,) * 10 + nest((SET,) * 6) + (SET,) * 7)
            self.both(False, (SET,) * 10 + nest((SET,) * 7) + (SET,) * 7)
            self.both(False, nest((SET,) * 6) + (SET,) * 18)
        for nest in NESTS:
            self.both(True, within((loop, first_if, nest), (SET,) * 21))
            self.both(False, within((loop, first_if, nest), (SET,) * 22))

    def test_both_bodies_of_an_if_count(self):
        self.both(True, (("if", "a", (SET,) * 11, (SET,) * 12),))
        self.both(False, (("if", "a", (SET,) * 12, (SET,) * 12),))
        self.both(False, (("if", "a", (SET,) * 24, ()),))
        self.both(False, (("if", "a", (), (SET,) * 24),))

    def test_empty_ifs_and_whiles_count(self):
        for statement in (("if", "a", (), ()), ("while", "a", ())):
            self.both(True, (statement,) * 24)
            self.both(False, (statement,) * 25)
            self.both(True, (("while", "a", (statement,) * 23),))
            self.both(False, (("while", "a", (statement,) * 24),))

    def test_a_late_statement_too_many(self):
        pair = ("if", "a", (SET,), (SET,))
        self.both(True, (pair,) * 8)
        self.both(False, (pair,) * 8 + (SET,))
        self.both(False, (SET,) + (pair,) * 8)
        self.both(False, (pair,) * 7 + (("if", "a", (SET,), (SET, SET)),))

    def test_many_copies_of_large_bodies_are_no_body(self):
        self.both(False, (("if", "a", (("if", "b", (SET,) * 24, (SET,) * 24),) * 24, ()),) * 24)

    def test_three_deep_and_four(self):
        for first in NESTS:
            for second in NESTS:
                for third in NESTS:
                    three = (first, second, third)
                    right = sum(maker is not loop for maker in three) <= 2
                    self.both(right, within(three))
                    self.both(right, within(three, (SET,)))
                    self.both(right, (SET,) + within(three, (SET,)) + (SET,))
                    for fourth in NESTS:
                        self.both(False, within(three + (fourth,)))
                        self.both(False, within(three + (fourth,), (SET,)))

    def test_two_deep(self):
        for first in NESTS:
            for second in NESTS:
                self.both(True, within((first, second)))
                self.both(True, within((first, second), (SET,)))

    def test_depth_is_that_of_one_statement_not_of_all(self):
        self.both(True, within((first_if, second_if, loop)) + within((loop, first_if, first_if)))
        self.both(True, within((loop, loop, loop)) + within((loop, second_if, first_if)))
        two = within((first_if, loop))
        self.both(True, (("if", "a", two, two), ("if", "a", two, two)))
        self.both(True, (("if", "a", first_if(()) + second_if(()), first_if(()) + second_if(())),))
        self.both(False, (("if", "a", two, within((first_if, second_if))),))
        self.both(False, (("while", "a", two + within((loop, loop, loop))),))


class Kernels(Case):
    def test_ordinary_kernels(self):
        for kernel in (EXAMPLE, LOOP, (("x",), ()), (("a", "b", "c"), (SET,)), (("end",), within(NESTS, (SET,)))):
            self.is_true(is_kernel, kernel)

    def test_outputs(self):
        for outputs in RIGHT_OUTPUTS:
            self.is_true(is_kernel, (outputs, (SET,)))

    def test_wrong_outputs(self):
        for outputs in WRONG_OUTPUTS:
            self.is_false(is_kernel, (outputs, (SET,)))
            self.is_false(is_kernel, (outputs, ()))

    def test_wrong_kernels(self):
        for thing in WRONG_KERNELS:
            self.is_false(is_kernel, thing)

    def test_a_kernel_is_no_body(self):
        self.is_false(is_body, EXAMPLE)


class Sizes(Case):
    def test_sizes(self):
        for body, many in SIZES:
            found = self.call(size, (("x",), body))
            self.assertEqual(found, many)
            self.assertIs(found.__class__, int)

    def test_examples(self):
        self.assertEqual(self.call(size, EXAMPLE), 4)
        self.assertEqual(self.call(size, LOOP), 2)

    def test_terms_and_outputs_do_not_count(self):
        self.assertEqual(self.call(size, (tuple("abcdefgh"), (("set", "x", nested_term(4)),))), 1)

    def test_what_is_no_kernel(self):
        for thing in WRONG_KERNELS:
            self.fails(NoKernel, size, thing)
        for outputs in WRONG_OUTPUTS:
            self.fails(NoKernel, size, (outputs, (SET,)))
        for statement in WRONG_STATEMENTS:
            self.fails(NoKernel, size, (("x",), (SET, statement)))
            self.fails(NoKernel, size, (("x",), within((loop, first_if), (statement,))))


if __name__ == "__main__":
    unittest.main()
