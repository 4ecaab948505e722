"""Renamings of what a body of sets works with, and the best one."""

import random
import unittest
from itertools import product

from samples import Case, SET_X, SET_Y, STRANGE
from sideweave import names as module
from sideweave.alone import end
from sideweave.errors import NoBodies, TooMany
from sideweave.names import best_names, is_renaming
from sideweave.terms import names_of
from sideweave.weaves import is_weave
from test_orders import in_common, letters, wrong_bodies

# Both work out (p + 1) * 2 into x; the first one with t in between, the second one with u.
ONE = (("set", "t", ("+", "p", 1)), ("set", "x", ("*", "t", 2)))
OTHER = (("set", "u", ("+", "p", 1)), ("set", "x", ("*", "u", 2)))
WRONG_NAMES = STRANGE[:9] + (
    [], ["x"], {}, {"x": 1}, ("b", "a"), ("a", "a"), ("a", "b", "b"), ("a", "c", "b"), tuple("abcdefghi"), ("A",),
    ("",),
    ("abcdefghi",), (1,), (None,), (True,), (("a",),), ("a", 1), ("a", None), ["a", "b"], "ab", ("a1",), ("a", ["b"]),
)


def slow_first(body, names):
    """Return the names that a body sets before it reads them, and that are not among the names."""
    found = set()
    for name in {statement[1] for statement in body} - set(names):
        first = next(part for part in body if name == part[1] or name in names_of(part[2]))
        if name not in names_of(first[2]):
            found.add(name)
    return found


def slow_renamings(one, other, names):
    """Return all renamings."""
    used = {name for part in other for name in (part[1],) + names_of(part[2])}
    sources, goals = sorted(slow_first(other, names)), sorted(slow_first(one, names) - used)
    found = []
    for chosen in product([None] + goals, repeat=len(sources)):
        renaming = {name: goal for name, goal in zip(sources, chosen) if goal}
        if len(set(renaming.values())) == len(renaming):
            found.append(renaming)
    return found


def slow_renamed(thing, renaming):
    """Return a body or a term with its names renamed; signs and the word set are no names of the renaming."""
    if isinstance(thing, tuple):
        return tuple(part if at == 0 and part in ("set", "+", "-", "*", "<", "=") else slow_renamed(part, renaming)
                     for at, part in enumerate(thing))
    return renaming.get(thing, thing)


def random_bodies(source):
    """Return two bodies, of which the second one is much like the first one with other names."""
    def part(names):
        term = source.choice((1, source.choice(names), ("+", source.choice(names), source.choice((1, "p", "q")))))
        return ("set", source.choice(names), term)

    one = tuple(part("tuvpx") for _ in range(source.randrange(6)))
    renaming = dict(zip("tuv", source.sample("abctuv", 3)))
    other = tuple(slow_renamed(statement, renaming) for statement in one if source.random() < 0.9)
    if source.random() < 0.3:
        other += (part("abxp"),)
    return one, other


class NamesCase(Case):
    def check(self, one, other, names, number):
        """Check the number of items, and that all of the answer belongs together; return the renaming."""
        found = self.call(best_names, one, other, names)
        self.assertIs(found.__class__, tuple)
        self.assertEqual(len(found), 4)
        self.assertEqual(found[0], number)
        self.assertIs(found[0].__class__, int)
        _, renaming, body, weave = found
        self.is_true(is_renaming, one, other, names, renaming)
        self.assertIn(renaming, slow_renamings(one, other, names))
        self.assertEqual(body, slow_renamed(other, renaming))
        self.is_true(is_weave, (one, body), weave)
        self.assertEqual(len(weave), number)
        return renaming


class BestNames(NamesCase):
    def test_interface(self):
        self.assertEqual({best_names.__module__, is_renaming.__module__}, {module.__name__})

    def test_bodies_that_are_the_same_but_for_names(self):
        weave = (("set", (0, 1), "t", ("+", "p", 1)), ("set", (0, 1), "x", ("*", "t", 2)))
        self.assertEqual(self.call(best_names, ONE, OTHER, ("x",)), (2, {"u": "t"}, ONE, weave))
        self.check(ONE, OTHER, ("x",), 2)
        self.check(ONE, OTHER, ("p", "x"), 2)
        self.check(ONE, OTHER, (), 2)

    def test_empty_bodies(self):
        self.assertEqual(self.call(best_names, (), (), ()), (0, {}, (), ()))
        self.assertEqual(self.call(best_names, ONE, (), ("x",))[:3], (2, {}, ()))
        self.assertEqual(self.call(best_names, (), OTHER, ("x",))[:3], (2, {}, OTHER))

    def test_bodies_with_nothing_to_rename(self):
        self.assertEqual(self.check(ONE, ONE, ("x",), 2), {})
        self.assertEqual(self.check((SET_X,), (SET_Y,), ("x", "y"), 2), {})

    def test_names_that_are_kept(self):
        for names in (("u", "x"), ("t", "x"), ("t", "u")):
            self.assertEqual(self.check(ONE, OTHER, names, 4), {})

    def test_names_that_are_read_first(self):
        # u and t are read before they are set.
        reads = (("set", "u", ("+", "u", 1)), ("set", "x", ("*", "u", 2)))
        self.assertEqual(self.check(ONE, reads, ("x",), 4), {})
        reads = (("set", "y", "u"),) + OTHER
        self.assertEqual(self.check(ONE, reads, ("x", "y"), 5), {})
        reads = (("set", "y", "t"),) + ONE
        self.assertEqual(self.check(reads, OTHER, ("x", "y"), 5), {})
        reads = (("set", "t", ("+", "t", 1)), ("set", "x", ("*", "t", 2)))
        self.assertEqual(self.check(reads, OTHER, ("x",), 4), {})

    def test_names_that_the_second_body_has_already(self):
        # t is set, or only read, in the second body.
        self.assertEqual(self.check(ONE, OTHER + (("set", "t", 5),), ("x",), 5), {})
        self.assertEqual(self.check(ONE, OTHER + (("set", "y", "t"),), ("x", "y"), 5), {})
        self.assertEqual(self.check(ONE, (("set", "y", "t"),) + OTHER, ("x", "y"), 5), {})

    def test_a_name_is_renamed_wherever_it_stands(self):
        other = (("set", "u", 1), ("set", "u", ("+", "u", ("*", "u", "p"))), ("set", "x", "u"))
        one = tuple(slow_renamed(statement, {"u": "t"}) for statement in other)
        self.assertEqual(self.check(one, other, ("x",), 3), {"u": "t"})

    def test_two_names_have_different_goals(self):
        one = (("set", "t", 1), ("set", "x", "t"), ("set", "t", 2), ("set", "y", "t"))
        other = (("set", "u", 1), ("set", "x", "u"), ("set", "v", 2), ("set", "y", "v"))
        self.assertEqual(len(self.check(one, other, ("x", "y"), 6)), 1)

    def test_the_best_of_several_goals(self):
        one = (("set", "a", 1), ("set", "b", 2), ("set", "c", 3))
        self.assertEqual(self.check(one, (("set", "u", 2),), (), 3), {"u": "b"})
        self.assertEqual(self.check(one, (("set", "u", 3), ("set", "v", 1), ("set", "w", 2)), (), 4),
                         {"v": "a", "w": "b"})

    def test_against_all_renamings(self):
        source = random.Random(121)
        better = 0
        for _ in range(400):
            one, other = random_bodies(source)
            names = tuple(sorted(source.sample("apqtuvx", source.randrange(4))))
            numbers = [len(one) + len(other) - in_common(one, slow_renamed(other, renaming))
                       for renaming in slow_renamings(one, other, names)]
            if len(slow_first(other, names)) > 4:
                self.fails(TooMany, best_names, one, other, names)
            else:
                self.check(one, other, names, min(numbers))
                better += min(numbers) < len(one) + len(other) - in_common(one, other)
        self.assertGreater(better, 40)

    def test_four_names_and_six_goals(self):
        one = tuple(("set", name, number) for number, name in enumerate("abcdef"))
        other = tuple(("set", name, number) for number, name in enumerate("zwzyxz"))
        self.assertEqual(len(slow_renamings(one, other, ())), 1045)
        self.check(one, other, (), 8)

    def test_both_end_with_the_same_numbers_for_the_names(self):
        source = random.Random(122)
        tried = 0
        for _ in range(300):
            one, other = random_bodies(source)
            names = ("p", "x")
            for renaming in slow_renamings(one, other, names)[1:4]:
                self.is_true(is_renaming, one, other, names, renaming)
                lane = {name: source.randrange(4) for name in "abcpqtuvx"}
                body = slow_renamed(other, renaming)
                self.assertEqual(end((names, body), lane), end((names, other), lane))
                tried += 1
        self.assertGreater(tried, 100)

    def test_answers_belong_to_the_caller(self):
        self.stays(best_names, ONE, OTHER, ("x",))
        self.stays(best_names, (), (), ())


class IsRenaming(NamesCase):
    ONE = (("set", "a", 1), ("set", "b", 2), ("set", "c", "c"), ("set", "k", 3), ("set", "w", 4))
    OTHER = (("set", "u", 1), ("set", "v", "r"), ("set", "s", ("+", "s", 1)), ("set", "n", "w"))
    NAMES = ("k", "n")

    def test_renamings(self):
        for renaming in ({}, {"u": "a"}, {"u": "b"}, {"v": "a"}, {"u": "a", "v": "b"}, {"v": "a", "u": "b"}):
            self.is_true(is_renaming, self.ONE, self.OTHER, self.NAMES, renaming)
        self.is_true(is_renaming, (), (), (), {})

    def test_the_order_of_the_pairs_means_nothing(self):
        self.is_true(is_renaming, self.ONE, self.OTHER, self.NAMES, {"v": "b", "u": "a"})

    def test_two_goals_alike(self):
        self.is_false(is_renaming, self.ONE, self.OTHER, self.NAMES, {"u": "a", "v": "a"})
        self.is_false(is_renaming, self.ONE, self.OTHER, self.NAMES, {"u": "b", "v": "b"})

    def test_names_that_are_not_renamed(self):
        # s is read first, n is among the names, w and r are only read, a is of the other body.
        for name in ("s", "n", "w", "r", "a", "x", "", "U", 1, None, True, False, 0, ("u",), ("u", True), ("a", "b")):
            self.is_false(is_renaming, self.ONE, self.OTHER, self.NAMES, {name: "a"})
            self.is_false(is_renaming, self.ONE, self.OTHER, self.NAMES, {"u": "b", name: "a"})

    def test_what_is_no_goal(self):
        # c is read first, k is among the names, w stands in the second body; u is that itself.
        for goal in ("c", "k", "w", "u", "v", "r", "s", "n", "x", "", "A", 1, 0, None, True, False, ("a",), ["a"], {},
                     {"a": 1}, [], -1, 10 ** 19):
            self.is_false(is_renaming, self.ONE, self.OTHER, self.NAMES, {"u": goal})
            self.is_false(is_renaming, self.ONE, self.OTHER, self.NAMES, {"v": "a", "u": goal})

    def test_what_is_no_dict(self):
        for thing in STRANGE:
            if thing != {}:
                self.is_false(is_renaming, self.ONE, self.OTHER, self.NAMES, thing)
                self.is_false(is_renaming, (), (), (), thing)
        self.is_false(is_renaming, self.ONE, self.OTHER, self.NAMES, [("u", "a")])
        self.is_false(is_renaming, self.ONE, self.OTHER, self.NAMES, (("u", "a"),))

    def test_all_renamings_and_others(self):
        source = random.Random(123)
        for _ in range(80):
            one, other = random_bodies(source)
            names = tuple(sorted(source.sample("apqtuvx", source.randrange(3))))
            right = slow_renamings(one, other, names)
            for _ in range(12):
                thing = {source.choice("abctuvpx"): source.choice("abctuvpx") for _ in range(source.randrange(3))}
                self.assertIs(self.call(is_renaming, one, other, names, thing), thing in right)

    def test_more_than_four_names(self):
        one = (("set", "z", 1),)
        self.is_true(is_renaming, one, letters(6), (), {"f": "z"})
        self.is_false(is_renaming, one, letters(6), (), {"f": "y"})


class Errors(NamesCase):
    def test_four_names_and_five(self):
        self.check(letters(6), letters(4), (), 6)
        self.fails(TooMany, best_names, letters(6), letters(5), ())
        self.fails(TooMany, best_names, (), letters(6), ())
        self.check(letters(6), letters(5), ("a",), 6)
        self.check(letters(6), letters(6), ("a", "b"), 6)
        self.fails(TooMany, best_names, letters(6), letters(6), ("a", "g"))
        # Names that are read first do not count, nor does a name that is set twice count twice.
        self.check((), letters(4) + (("set", "e", "e"), ("set", "f", "f")), (), 6)
        self.check((), letters(4) + letters(2), (), 6)

    def test_what_is_no_body(self):
        for thing in wrong_bodies():
            self.fails(NoBodies, best_names, thing, OTHER, ("x",))
            self.fails(NoBodies, best_names, ONE, thing, ("x",))
            self.fails(NoBodies, is_renaming, thing, OTHER, ("x",), {})
            self.fails(NoBodies, is_renaming, ONE, thing, ("x",), None)

    def test_what_are_no_names(self):
        for thing in WRONG_NAMES:
            self.fails(NoBodies, best_names, ONE, OTHER, thing)
            self.fails(NoBodies, is_renaming, ONE, OTHER, thing, {})
        # Not too many, for the names are looked at first.
        self.fails(NoBodies, best_names, (), letters(6), ["a", "b"])

    def test_names(self):
        for names in ((), ("a",), ("a", "aa", "b"), tuple("abcdefgh"), ("end", "if", "while")):
            self.check(ONE, OTHER, names, 2)


if __name__ == "__main__":
    unittest.main()
