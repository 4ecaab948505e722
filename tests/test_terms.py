"""Terms, their values and their names."""

import unittest

from samples import Case, STRANGE, deep, nested_left, nested_term
from sideweave import terms
from sideweave.errors import NoLaunch, NoTerm
from sideweave.terms import is_term, names_of, value

SIGNS = ("+", "-", "*", "<", "=")
LETTERS = "abcdefghijklmnopqrstuvwxyz"
RIGHT_TERMS = (
    0, 1, 65535, "a", "z", "if", "end", "else", "out", "set", "while", "abcdefgh", ("+", 1, "a"), ("-", "a", "b"),
    ("*", ("+", 1, 2), ("=", "x", 3)), ("<", 0, 65535), nested_term(4), nested_left(4),
    ("=", nested_term(3, "-"), nested_left(3, "*")),
)
WRONG_NAMES = (
    "", "abcdefghi", "x" * 9000, "A", "aB", "Zz", "a1", "1", "12", "a_b", "a b", " a", "a ", "a\n", "\n", "a-b", "+",
    "\u00e9", "\u00df", "\u0430", "a\u0301", "\uff41", "`", "{", "a{",
)
WRONG_SIGNS = ("/", "", "+-", "<=", "==", ">", "**", " +", "add", "a", None, 0, True, ("+",), [], {})
WRONG_NUMBERS = (-1, 65536, -65535, 10 ** 19, -(10 ** 19), True, False)


def sixty_names(many):
    """Return so many different names."""
    return [one + other for one in LETTERS[:10] for other in LETTERS][:many]


def wrong_terms():
    """Return many values that are no terms, alone and within terms."""
    wrong = list(STRANGE) + list(WRONG_NAMES) + list(WRONG_NUMBERS)
    wrong += [("+", 1), ("+", 1, 2, 3), ("+",), ["+", 1, 2], ("+", [1], 2), ("+", 1, ["-", 1, 2]), ("+", (1,), 2)]
    wrong += [(sign, 1, 2) for sign in WRONG_SIGNS]
    wrong += [(1, "+", 2), (1, 2, "+"), ("+", "+", 1)]
    wrong += [nested_term(5), nested_left(5), nested_term(39), nested_left(39)]
    wrong += [("+", nested_term(4), 1), ("+", 1, nested_left(4)), ("*", 1, ("+", nested_term(3), 2))]
    wrong += [deep(39, make, 1) for make in (lambda thing: [thing], lambda thing: (thing,), lambda thing: {1: thing})]
    bad = [None, True, -1, 65536, "", "A", [], (), {}, ("+", 1), ("/", 1, 2)]
    wrong += [("+", thing, "a") for thing in bad] + [("<", 5, thing) for thing in bad]
    wrong += [("+", ("-", ("*", ("=", thing, 1), 2), 3), 4) for thing in bad]
    return wrong


class Terms(Case):
    def test_interface(self):
        for function in (is_term, value, names_of):
            self.assertEqual(function.__module__, terms.__name__)

    def test_numbers_are_terms(self):
        for number in (0, 1, 10, 255, 256, 65534, 65535):
            self.is_true(is_term, number)

    def test_other_integers_and_booleans_are_none(self):
        for number in WRONG_NUMBERS:
            self.is_false(is_term, number)
            self.is_false(is_term, ("+", number, 1))
            self.is_false(is_term, ("+", 1, number))

    def test_names_are_terms(self):
        for name in ("ab", "abcdefg", "abcdefgh", "zzzzzzzz", "if", "else", "end", "while", "set", "out", "test"):
            self.is_true(is_term, name)
        for letter in LETTERS:
            self.is_true(is_term, letter)

    def test_other_strings_are_none(self):
        for name in WRONG_NAMES:
            self.is_false(is_term, name)
            self.is_false(is_term, ("=", name, 1))

    def test_each_operator(self):
        for sign in SIGNS:
            self.is_true(is_term, (sign, "a", 1))
            self.is_true(is_term, (sign, ("+", 1, "b"), ("<", "c", 65535)))

    def test_four_operators_within_one_another(self):
        for sign in SIGNS:
            for levels in range(5):
                self.is_true(is_term, nested_term(levels, sign))
                self.is_true(is_term, nested_left(levels, sign))
        self.is_true(is_term, deep(4, lambda term: ("+", term, term), "a"))

    def test_five_operators_within_one_another(self):
        for sign in SIGNS:
            self.is_false(is_term, nested_term(5, sign))
            self.is_false(is_term, nested_left(5, sign))
        self.is_false(is_term, ("+", ("-", 1, 2), ("+", nested_left(3, "*"), nested_term(4, "<"))))
        self.is_false(is_term, deep(5, lambda term: ("+", term, term), "a"))

    def test_right_terms(self):
        for term in RIGHT_TERMS:
            self.is_true(is_term, term)

    def test_wrong_terms(self):
        for thing in wrong_terms():
            self.is_false(is_term, thing)


class Values(Case):
    def test_numbers(self):
        for number in (0, 1, 65535):
            self.assertEqual(self.call(value, number, {"a": 3}), number)

    def test_names(self):
        self.assertEqual(self.call(value, "a", {"a": 3, "b": 4}), 3)
        self.assertEqual(self.call(value, "b", {"a": 3, "b": 65535}), 65535)
        self.assertEqual(self.call(value, "end", {"end": 7}), 7)

    def test_a_name_that_is_not_in_the_registers_counts_as_zero(self):
        self.assertEqual(self.call(value, "c", {"a": 3}), 0)
        self.assertEqual(self.call(value, "c", {}), 0)
        self.assertEqual(self.call(value, ("=", "c", 0), {"a": 3}), 1)
        self.assertEqual(self.call(value, ("-", "c", 1), {"a": 3}), 65535)

    def check(self, sign, one, other, answer):
        """Check an operator between two numbers, and between two registers."""
        for term, registers in (((sign, one, other), {}), ((sign, "a", "b"), {"a": one, "b": other})):
            found = self.call(value, term, registers)
            self.assertEqual(found, answer, (sign, one, other))
            self.assertIs(found.__class__, int)

    def test_sums(self):
        for one, other, answer in ((2, 3, 5), (65535, 1, 0), (65535, 65535, 65534), (0, 0, 0), (65534, 1, 65535)):
            self.check("+", one, other, answer)

    def test_differences(self):
        for one, other, answer in ((5, 3, 2), (3, 5, 65534), (0, 1, 65535), (0, 65535, 1), (7, 7, 0)):
            self.check("-", one, other, answer)
        self.check("-", 65535, 0, 65535)

    def test_products(self):
        for one, other, answer in ((6, 7, 42), (256, 256, 0), (65535, 65535, 1), (65535, 2, 65534), (0, 9, 0)):
            self.check("*", one, other, answer)
        self.check("*", 300, 300, 24464)

    def test_less(self):
        for one, other, answer in ((1, 2, 1), (2, 1, 0), (2, 2, 0), (0, 65535, 1), (65535, 0, 0), (0, 0, 0)):
            self.check("<", one, other, answer)

    def test_equal(self):
        for one, other, answer in ((1, 2, 0), (2, 1, 0), (2, 2, 1), (0, 65535, 0), (65535, 0, 0), (0, 0, 1)):
            self.check("=", one, other, answer)

    def test_operators_within_operators(self):
        registers = {"a": 10, "b": 3, "c": 65535}
        self.assertEqual(self.call(value, ("*", ("+", "a", 2), ("-", "b", 1)), registers), 24)
        self.assertEqual(self.call(value, ("-", ("-", "a", "b"), 1), registers), 6)
        self.assertEqual(self.call(value, ("-", "a", ("-", "b", 1)), registers), 8)
        self.assertEqual(self.call(value, ("<", ("+", "c", 1), "b"), registers), 1)
        self.assertEqual(self.call(value, ("+", ("<", "b", "a"), ("=", "b", 3)), registers), 2)
        self.assertEqual(self.call(value, ("=", ("*", "c", "c"), 1), registers), 1)
        self.assertEqual(self.call(value, nested_term(4), registers), 14)
        self.assertEqual(self.call(value, nested_left(4, "-"), registers), 6)
        self.assertEqual(self.call(value, nested_term(4, "-"), registers), 10)
        self.assertEqual(self.call(value, nested_term(3, "-"), registers), 65527)

    def test_sixty_registers(self):
        registers = {name: at for at, name in enumerate(sixty_names(60))}
        self.assertEqual(len(registers), 60)
        self.assertEqual(self.call(value, ("+", sixty_names(60)[59], sixty_names(60)[1]), registers), 60)

    def test_what_are_no_registers(self):
        many = {name: 1 for name in sixty_names(61)}
        wrong = [many, None, True, 5, "a", "", [], (), [("a", 1)], (("a", 1),), ["a"]]
        wrong += [{"a": None}, {"a": "1"}, {"a": [1]}, {"a": (1,)}, {"a": ("+", 1, 2)}]
        wrong += [{"a": 1, "b": number} for number in WRONG_NUMBERS]
        wrong += [{"b": 1, name: 1} for name in WRONG_NAMES]
        wrong += [{1: 1}, {None: 1}, {("a",): 1}, {"a": 1, 0: 0}, {"a": {"a": 1}}]
        for registers in wrong:
            for term in (0, "a", "b", ("+", "a", "b")):
                self.fails(NoLaunch, value, term, registers)

    def test_what_is_no_term(self):
        for thing in wrong_terms():
            self.fails(NoTerm, value, thing, {"a": 1})

    def test_the_earlier_argument_first(self):
        for thing in wrong_terms():
            for registers in (None, [], {"a": 65536}, {"A": 1}, {"a": True}):
                self.fails(NoTerm, value, thing, registers)


class Names(Case):
    def test_none(self):
        for term in (0, 65535, ("+", 1, 2), ("<", ("*", 1, 2), 3)):
            self.assertEqual(self.call(names_of, term), ())

    def test_one(self):
        self.assertEqual(self.call(names_of, "end"), ("end",))
        self.assertEqual(self.call(names_of, ("+", 1, "a")), ("a",))
        self.assertEqual(self.call(names_of, ("+", "a", 1)), ("a",))
        self.assertEqual(self.call(names_of, nested_term(4)), ("a",))

    def test_a_name_that_occurs_twice_is_there_once(self):
        self.assertEqual(self.call(names_of, ("+", "a", "a")), ("a",))
        self.assertEqual(self.call(names_of, ("*", ("+", "b", "a"), ("-", "a", "b"))), ("a", "b"))

    def test_names_ascend(self):
        self.assertEqual(self.call(names_of, ("+", "b", "a")), ("a", "b"))
        mixed = ("+", ("=", "z", "ab"), ("-", "b", ("<", "a", "abc")))
        self.assertEqual(self.call(names_of, mixed), ("a", "ab", "abc", "b", "z"))
        many = ("+", ("+", ("+", ("+", "p", "o"), ("+", "n", "m")), ("+", ("+", "l", "k"), ("+", "j", "i"))),
                ("+", ("+", ("+", "h", "g"), ("+", "f", "e")), ("+", ("+", "d", "c"), ("+", "b", "a"))))
        self.assertEqual(self.call(names_of, many), tuple("abcdefghijklmnop"))

    def test_what_is_no_term(self):
        for thing in wrong_terms():
            self.fails(NoTerm, names_of, thing)


if __name__ == "__main__":
    unittest.main()
