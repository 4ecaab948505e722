"""The issues of the woven code."""

import random
import unittest

from samples import EXAMPLE, LOOP, NO_KERNELS, NO_LAUNCHES, NO_WEAVES, RunCase, SET_X, SET_Y, WOVEN
from slow import random_kernel, random_launch, random_weave, slow_issues, slow_lane
from sideweave import woven
from sideweave.errors import NoKernel, NoLaunch, NoWeave
from sideweave.plain import run_plain
from sideweave.weaves import plain_weave
from sideweave.woven import run_weave

ADD = ("set", "x", ("+", "x", "b"))
STEP = ("set", "i", ("+", "i", 1))
LESS_N, LESS_M = ("<", "i", "n"), ("<", "i", "m")
TURNS = (("i",), (("while", LESS_N, (STEP,)),))
ROUNDS = (("loop", (0,), (("set", (0,)) + STEP[1:],)),)
# Two sides with an if each, the tests of which are the same, and such with different ones.
SAME = (("x", "y"), (("if", "a", (("if", "b", (SET_X,), (SET_Y,)),), (SET_Y, ("if", "b", (SET_Y,), (SET_X,)))),))
OTHER = (("x", "y"), (("if", "a", (("if", "b", (SET_X,), (SET_Y,)),), (SET_Y, ("if", "c", (SET_Y,), (SET_X,)))),))
FOUR = (("set", (0, 3), "x", 1), ("set", (1, 2), "y", 2))
BOTH = (("split", (0,), (("set", (1,), "y", 2), ("split", (0, 1), FOUR))),)
# A loop on each of two sides, with the same test or with different ones.
LOOPS = (("i",), (("if", "a", (("while", LESS_N, (STEP,)),), (("while", LESS_N, (SET_X, STEP)),)),))
OTHERS = (("i",), (("if", "a", (("while", LESS_N, (STEP,)),), (("while", LESS_M, (SET_X, STEP)),)),))
TURNING = (("split", (0,), (("loop", (0, 1), (("set", (1,), "x", 1), ("set", (0, 1)) + STEP[1:])),)),)


class WovenCase(RunCase):
    def check(self, kernel, weave, launch, issues):
        """Check the issues of a weave, also against those of each lane alone and of the plain code."""
        found = self.call(run_weave, kernel, weave, launch)
        self.assertIs(found.__class__, tuple)
        self.assertEqual(found[1], issues)
        self.check_lanes(kernel, launch, *found)
        self.assertLessEqual(len(issues), len(run_plain(kernel, launch)[1]))
        self.assertEqual(self.call(run_weave, kernel, plain_weave(kernel), launch), run_plain(kernel, launch))


class Woven(WovenCase):
    def test_interface(self):
        self.assertEqual(run_weave.__module__, woven.__name__)

    def test_the_example(self):
        issues = [(("test", "a"), (0, 1)), (SET_X, (0,)), (ADD, (0, 1))]
        self.check(EXAMPLE, WOVEN, [{"a": 1, "b": 5}, {"b": 5}], issues)
        self.assertEqual(run_weave(EXAMPLE, WOVEN, [{"a": 1, "b": 5}, {"b": 5}])[0], [{"x": 6}, {"x": 5}])

    def test_common_sets_are_issued_once_for_ascending_lanes(self):
        launch = [{}, {"a": 1}, {}, {"a": 2}, {"a": 3}]
        lanes = (0, 1, 2, 3, 4)
        self.check(EXAMPLE, WOVEN, launch, [(("test", "a"), lanes), (SET_X, (1, 3, 4)), (ADD, lanes)])

    def test_lanes_that_all_take_one_side(self):
        self.check(EXAMPLE, WOVEN, [{}, {}], [(("test", "a"), (0, 1)), (ADD, (0, 1))])
        self.check(EXAMPLE, WOVEN, [{"a": 1}], [(("test", "a"), (0,)), (SET_X, (0,)), (ADD, (0,))])

    def test_the_empty_weave(self):
        self.check((("x",), ()), (), [{}, {"x": 3}], [])

    def test_sets_without_branches(self):
        kernel = (("x",), (SET_X, ADD))
        weave = (("set", (0,), "x", 1), ("set", (0,)) + ADD[1:])
        self.check(kernel, weave, [{"b": 1}, {}], [(SET_X, (0, 1)), (ADD, (0, 1))])

    def test_the_second_side_may_come_first(self):
        kernel = (("x", "y"), (("if", "a", (SET_X,), (SET_Y,)),))
        weave = (("split", (0,), (("set", (1,), "y", 2), ("set", (0,), "x", 1))),)
        self.check(kernel, weave, [{"a": 1}, {}], [(("test", "a"), (0, 1)), (SET_Y, (1,)), (SET_X, (0,))])

    def test_a_split_of_two_sides_with_one_test(self):
        launch = [{"a": 1, "b": 1}, {"b": 1}, {"a": 1}, {}]
        issues = [(("test", "a"), (0, 1, 2, 3)), (SET_Y, (1, 3)), (("test", "b"), (0, 1, 2, 3)), (SET_X, (0, 3)),
                  (SET_Y, (1, 2))]
        self.check(SAME, BOTH, launch, issues)
        self.check(SAME, BOTH, launch[:1], [(("test", "a"), (0,)), (("test", "b"), (0,)), (SET_X, (0,))])

    def test_a_split_of_two_sides_with_different_tests(self):
        launch = [{"a": 1, "b": 1}, {"c": 1}, {"a": 1, "c": 1}, {"b": 1}]
        issues = [(("test", "a"), (0, 1, 2, 3)), (SET_Y, (1, 3)), (("test", "b"), (0, 2)), (("test", "c"), (1, 3)),
                  (SET_X, (0, 3)), (SET_Y, (1, 2))]
        self.check(OTHER, BOTH, launch, issues)
        issues = [(("test", "a"), (0,)), (SET_Y, (0,)), (("test", "c"), (0,)), (SET_X, (0,))]
        self.check(OTHER, BOTH, [{"b": 1}], issues)

    def test_the_tests_come_in_the_order_of_their_first_sides(self):
        loops = tuple(("while", name, (("set", name, 0),)) for name in "pqpr")
        kernel = (("x",), (("if", "a", (("if", "b", loops[:1], loops[1:2]),), (("if", "b", loops[2:3], loops[3:]),)),))
        within = (("set", (0, 2), "p", 0), ("set", (1,), "q", 0), ("set", (3,), "r", 0))
        weave = (("split", (0,), (("split", (0, 1), (("loop", (0, 1, 2, 3), within),)),)),)
        all_lanes = [{"a": a, "b": b, "p": 1, "q": 1, "r": 1} for a, b in ((0, 0), (0, 1), (1, 0), (1, 1))]
        p, q, r = (("test", "p"), (1, 3)), (("test", "q"), (2,)), (("test", "r"), (0,))
        sets = [(("set", "p", 0), (1, 3)), (("set", "q", 0), (2,)), (("set", "r", 0), (0,))]
        lanes = (0, 1, 2, 3)
        issues = [(("test", "a"), lanes), (("test", "b"), lanes), p, q, r] + sets + [p, q, r]
        self.check(kernel, weave, all_lanes, issues)
        # The first side has no lanes here; its test still comes first, for the lane of the third side.
        issues = [(("test", "a"), (0, 1)), (("test", "b"), (0, 1)), (("test", "p"), (1,)), (("test", "q"), (0,)),
                  (("set", "q", 0), (0,)), (("test", "q"), (0,))]
        self.check(kernel, weave, [{"a": 1, "q": 1}, {"b": 1}], issues)

    def test_a_loop_of_one_side(self):
        more = ("test", LESS_N)
        issues = [(more, (0, 1, 2)), (STEP, (0, 2)), (more, (0, 2)), (STEP, (2,)), (more, (2,))]
        self.check(TURNS, ROUNDS, [{"n": 1}, {}, {"n": 2}], issues)

    def test_a_loop_of_two_sides_that_lanes_leave_at_different_turns(self):
        more = ("test", LESS_N)
        launch = [{"a": 1, "n": 2}, {"n": 1}, {"a": 1}, {"n": 3}]
        issues = [(("test", "a"), (0, 1, 2, 3)), (more, (0, 1, 2, 3)), (SET_X, (1, 3)), (STEP, (0, 1, 3)),
                  (more, (0, 1, 3)), (SET_X, (3,)), (STEP, (0, 3)), (more, (0, 3)), (SET_X, (3,)), (STEP, (3,)),
                  (more, (3,))]
        self.check(LOOPS, TURNING, launch, issues)

    def test_a_loop_of_two_sides_with_different_tests(self):
        one, other = ("test", LESS_N), ("test", LESS_M)
        launch = [{"a": 1, "n": 2}, {"m": 1, "n": 9}, {"a": 1, "m": 9}]
        issues = [(("test", "a"), (0, 1, 2)), (one, (0, 2)), (other, (1,)), (SET_X, (1,)), (STEP, (0, 1)),
                  (one, (0,)), (other, (1,)), (STEP, (0,)), (one, (0,))]
        self.check(OTHERS, TURNING, launch, issues)

    def test_sides_within_loops(self):
        odd = ("if", "k", (SET_X, STEP), (STEP,))
        kernel = (("i", "x"), (("while", LESS_N, (odd, ("set", "k", 0))),))
        split = ("split", (0,), (("set", (0,), "x", 1), ("set", (0, 1)) + STEP[1:]))
        weave = (("loop", (0,), (split, ("set", (0,), "k", 0))),)
        more, test, less = ("test", LESS_N), ("test", "k"), ("set", "k", 0)
        issues = [(more, (0, 1)), (test, (0, 1)), (SET_X, (0,)), (STEP, (0, 1)), (less, (0, 1)), (more, (0, 1)),
                  (test, (0,)), (STEP, (0,)), (less, (0,)), (more, (0,))]
        self.check(kernel, weave, [{"k": 1, "n": 2}, {"n": 1}], issues)

    def test_empty_bodies(self):
        kernel = (("x",), (("if", "a", (("if", "b", (), ()),), (("if", "b", (), ()),)),))
        weave = (("split", (0,), (("split", (0, 1), ()),)),)
        self.check(kernel, weave, [{"a": 1}, {}], [(("test", "a"), (0, 1)), (("test", "b"), (0, 1))])

    def test_against_another_way(self):
        source = random.Random(31)
        tried = fewer = 0
        for _ in range(400):
            kernel = random_kernel(source, source.randrange(1, 25))
            launch = random_launch(source)
            if None not in [slow_lane(kernel, registers)[1] for registers in launch]:
                weave = random_weave(source, (kernel[1],))
                issues = slow_issues(kernel, weave, launch)
                self.check(kernel, weave, launch, issues)
                tried += 1
                fewer += len(issues) < len(run_plain(kernel, launch)[1])
        self.assertGreater(tried, 300)
        self.assertGreater(fewer, 20)

    def test_answers_belong_to_the_caller(self):
        self.stays(run_weave, EXAMPLE, WOVEN, [{"a": 1}, {}])
        self.stays(run_weave, (("a",), ()), (), [{"a": 1}])

    def test_a_launch_that_was_changed_is_read_anew(self):
        launch = [{"a": 1}, {}]
        self.assertEqual(len(run_weave(EXAMPLE, WOVEN, launch)[1]), 3)
        launch[0]["a"] = 0
        self.assertEqual(run_weave(EXAMPLE, WOVEN, launch)[1], [(("test", "a"), (0, 1)), (ADD, (0, 1))])
        del launch[1]
        self.assertEqual(run_weave(EXAMPLE, WOVEN, launch)[1], [(("test", "a"), (0,)), (ADD, (0,))])


class Errors(RunCase):
    def test_what_is_no_kernel(self):
        for thing in NO_KERNELS:
            self.fails(NoKernel, run_weave, thing, WOVEN, [{}])
            self.fails(NoKernel, run_weave, thing, (), [{}])

    def test_what_is_no_weave(self):
        for thing in NO_WEAVES:
            self.fails(NoWeave, run_weave, EXAMPLE, thing, [{}])

    def test_a_weave_of_another_kernel(self):
        self.fails(NoWeave, run_weave, EXAMPLE, plain_weave(LOOP), [{}])
        self.fails(NoWeave, run_weave, LOOP, WOVEN, [{}])
        self.fails(NoWeave, run_weave, OTHERS, plain_weave(SAME), [{}])
        self.fails(NoWeave, run_weave, LOOPS, plain_weave((("i",), LOOPS[1] + (SET_X,))), [{}])
        # The tests do not stand in a weave, nor do the outputs.
        self.assertEqual(run_weave(OTHER, plain_weave(SAME), [{}]), run_plain(OTHER, [{}]))

    def test_what_is_no_launch(self):
        for thing in NO_LAUNCHES:
            self.fails(NoLaunch, run_weave, EXAMPLE, WOVEN, thing)

    def test_long_lanes(self):
        self.too_long(0, run_weave, TURNS, ROUNDS, [{"n": 250}])
        self.too_long(2, run_weave, TURNS, ROUNDS, [{}, {"n": 249}, {"n": 300}, {"n": 250}])
        self.too_long(1, run_weave, LOOPS, TURNING, [{}, {"n": 500}, {"a": 1, "n": 500}])
        self.assertEqual(len(self.call(run_weave, TURNS, ROUNDS, [{"n": 249}])[1]), 499)

    def test_the_order_of_the_errors(self):
        endless, weave = (("x",), (("while", 1, ()),)), (("loop", (0,), ()),)
        for thing in NO_KERNELS:
            self.fails(NoKernel, run_weave, thing, None, None)
        for thing in NO_WEAVES + ((),):
            self.fails(NoWeave, run_weave, endless, thing, None)
            self.fails(NoWeave, run_weave, endless, thing, [{}])
        for thing in NO_LAUNCHES:
            self.fails(NoLaunch, run_weave, endless, weave, thing)
        self.too_long(0, run_weave, endless, weave, [{}])


if __name__ == "__main__":
    unittest.main()
