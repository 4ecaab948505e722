"""Launches, and the issues of the plain code."""

import random
import unittest

from samples import (Case, EXAMPLE, LOOP, NO_KERNELS, NO_LAUNCHES, NO_STARTS, RunCase, SET_X, SET_Y, SEVENTEEN,
                     SIXTEEN)
from slow import plain_items, random_kernel, random_launch, slow_issues, slow_lane
from sideweave import plain
from sideweave.errors import NoKernel, NoLaunch
from sideweave.plain import is_launch, run_plain

ADD = ("set", "x", ("+", "x", "b"))
STEP = ("set", "i", ("+", "i", 1))
TURNS = (("i",), (("while", ("<", "i", "n"), (STEP,)),))
MORE = ("test", ("<", "i", "n"))


class PlainCase(RunCase):
    def check(self, kernel, launch, ends, issues):
        """Check the answer of run_plain, also against what each lane does alone."""
        found = self.call(run_plain, kernel, launch)
        self.assertIs(found.__class__, tuple)
        self.assertEqual(found, (ends, issues))
        self.check_lanes(kernel, launch, *found)


class Launches(Case):
    def test_interface(self):
        self.assertEqual((is_launch.__module__, run_plain.__module__), (plain.__name__,) * 2)

    def test_launches(self):
        for many in range(1, 9):
            self.is_true(is_launch, [{} for _ in range(many)])
            self.is_true(is_launch, [{"a": many}] * many)
        for lane in ({}, {"a": 0}, {"a": 65535}, SIXTEEN, {"if": 1, "end": 2}, {"abcdefgh": 1}):
            self.is_true(is_launch, [lane])
            self.is_true(is_launch, [{}, lane, lane])

    def test_other_values(self):
        for thing in NO_LAUNCHES:
            self.is_false(is_launch, thing)
        for lane in NO_STARTS:
            self.is_false(is_launch, [{"a": 1}, {}, lane])
            self.is_false(is_launch, (lane,))

    def test_none_and_nine_lanes(self):
        self.is_false(is_launch, [])
        self.is_false(is_launch, [{}] * 9)

    def test_booleans_as_keys(self):
        self.is_false(is_launch, [{True: 1}])
        self.is_false(is_launch, [{"a": 1, False: 0}])


class Plain(PlainCase):
    def test_sets_for_one_lane_and_for_eight(self):
        kernel = (("x", "y"), (SET_X, SET_Y, ADD))
        self.check(kernel, [{"b": 3}], [{"x": 4, "y": 2}], [(SET_X, (0,)), (SET_Y, (0,)), (ADD, (0,))])
        lanes = tuple(range(8))
        ends = [{"x": 1 + lane, "y": 2} for lane in lanes]
        self.check(kernel, [{"b": lane} for lane in lanes], ends, [(SET_X, lanes), (SET_Y, lanes), (ADD, lanes)])

    def test_the_empty_body(self):
        self.check((("x",), ()), [{}, {"x": 4}], [{"x": 0}, {"x": 4}], [])

    def test_both_sides_of_a_branch(self):
        launch = [{"b": 5}, {"a": 1, "b": 5}, {"a": 2}]
        issues = [(("test", "a"), (0, 1, 2)), (SET_X, (1, 2)), (ADD, (1, 2)), (ADD, (0,))]
        self.check(EXAMPLE, launch, [{"x": 5}, {"x": 6}, {"x": 1}], issues)

    def test_a_branch_whose_lanes_all_take_one_side(self):
        issues = [(("test", "a"), (0, 1)), (SET_X, (0, 1)), (ADD, (0, 1))]
        self.check(EXAMPLE, [{"a": 1}, {"a": 2}], [{"x": 1}, {"x": 1}], issues)
        self.check(EXAMPLE, [{}, {"b": 2}], [{"x": 0}, {"x": 2}], [(("test", "a"), (0, 1)), (ADD, (0, 1))])

    def test_empty_bodies_of_a_branch(self):
        self.check((("x",), (("if", "a", (), ()),)), [{}, {"a": 1}], [{"x": 0}] * 2, [(("test", "a"), (0, 1))])
        kernel = (("x",), (("if", "a", (), (SET_X,)), SET_Y))
        issues = [(("test", "a"), (0, 1)), (SET_X, (0,)), (SET_Y, (0, 1))]
        self.check(kernel, [{}, {"a": 1}], [{"x": 1}, {"x": 0}], issues)

    def test_a_loop_that_lanes_leave_at_different_turns(self):
        issues = [(MORE, (0, 1, 2, 3)), (STEP, (0, 2, 3)), (MORE, (0, 2, 3)), (STEP, (0, 3)), (MORE, (0, 3)),
                  (STEP, (3,)), (MORE, (3,))]
        launch = [{"n": 2}, {}, {"n": 1}, {"n": 3}]
        self.check(TURNS, launch, [{"i": 2}, {"i": 0}, {"i": 1}, {"i": 3}], issues)

    def test_a_loop_that_no_lane_enters(self):
        self.check(TURNS, [{}, {"i": 9, "n": 9}], [{"i": 0}, {"i": 9}], [(MORE, (0, 1))])

    def test_a_loop_in_a_branch(self):
        kernel = (("i",), (("if", "a", TURNS[1], (STEP,)), SET_X))
        issues = [(("test", "a"), (0, 1, 2)), (MORE, (0, 2)), (STEP, (2,)), (MORE, (2,)), (STEP, (1,)),
                  (SET_X, (0, 1, 2))]
        self.check(kernel, [{"a": 1}, {"n": 5}, {"a": 2, "n": 1}], [{"i": 0}, {"i": 1}, {"i": 1}], issues)

    def test_branches_in_a_loop(self):
        odd = ("if", ("=", "i", "k"), (SET_X,), (("if", "b", (SET_Y,), ()),))
        kernel = (("i", "x", "y"), (("while", ("<", "i", "n"), (odd, STEP)),))
        same, inner = ("test", ("=", "i", "k")), ("test", "b")
        issues = [(MORE, (0, 1)), (same, (0, 1)), (SET_X, (0,)), (inner, (1,)), (SET_Y, (1,)), (STEP, (0, 1)),
                  (MORE, (0, 1)), (same, (0,)), (inner, (0,)), (STEP, (0,)), (MORE, (0,))]
        ends = [{"i": 2, "x": 1, "y": 0}, {"i": 1, "x": 0, "y": 2}]
        self.check(kernel, [{"n": 2}, {"n": 1, "k": 3, "b": 1}], ends, issues)

    def test_a_loop_in_a_loop(self):
        inner = ("while", ("<", "j", "i"), (("set", "j", ("+", "j", 1)),))
        kernel = (("i", "j"), (("while", ("<", "i", "n"), (STEP, inner, ("set", "j", 0))),))
        for launch in ([{"n": 1}], [{"n": 3}, {"n": 1}], [{"n": turns} for turns in (0, 3, 2, 1, 3)]):
            issues = slow_issues(kernel, plain_items((kernel[1],)), launch)
            self.check(kernel, launch, [{"i": lane["n"], "j": 0} for lane in launch], issues)

    def test_the_same_dict_for_two_lanes(self):
        lane = {"n": 1}
        issues = [(MORE, (0, 1)), (STEP, (0, 1)), (MORE, (0, 1))]
        self.check(TURNS, [lane, lane], [{"i": 1}, {"i": 1}], issues)
        self.assertEqual(lane, {"n": 1})

    def test_against_another_way(self):
        source = random.Random(12)
        tried = 0
        for _ in range(300):
            kernel = random_kernel(source, source.randrange(1, 25))
            launch = random_launch(source)
            if None not in [slow_lane(kernel, registers)[1] for registers in launch]:
                ends = [slow_lane(kernel, registers)[0] for registers in launch]
                self.check(kernel, launch, ends, slow_issues(kernel, plain_items((kernel[1],)), launch))
                tried += 1
        self.assertGreater(tried, 200)

    def test_answers_belong_to_the_caller(self):
        ends, issues = self.stays(run_plain, EXAMPLE, [{"a": 1}, {}])
        self.assertEqual((len(ends), len(issues)), (2, 4))
        self.stays(run_plain, (("a",), ()), [{"a": 1}, {}])

    def test_a_launch_that_was_changed_is_read_anew(self):
        launch = [{"n": 1}]
        self.check(TURNS, launch, [{"i": 1}], [(MORE, (0,)), (STEP, (0,)), (MORE, (0,))])
        launch[0]["n"] = 0
        self.check(TURNS, launch, [{"i": 0}], [(MORE, (0,))])
        launch.append({"i": 3})
        self.check(TURNS, launch, [{"i": 0}, {"i": 3}], [(MORE, (0, 1))])
        launch[1]["i"] = True
        self.fails(NoLaunch, run_plain, TURNS, launch)
        del launch[:]
        self.fails(NoLaunch, run_plain, TURNS, launch)


class Errors(RunCase):
    def test_what_is_no_kernel(self):
        for thing in NO_KERNELS:
            self.fails(NoKernel, run_plain, thing, [{}])

    def test_what_is_no_launch(self):
        for thing in NO_LAUNCHES:
            for kernel in (EXAMPLE, LOOP, (("x",), ())):
                self.fails(NoLaunch, run_plain, kernel, thing)

    def test_long_lanes(self):
        self.too_long(0, run_plain, TURNS, [{"n": 250}])
        self.too_long(1, run_plain, TURNS, [{"n": 249}, {"n": 250}])
        self.too_long(7, run_plain, TURNS, [{"n": 1}] * 7 + [{"n": 65535}])
        self.assertEqual(self.call(run_plain, TURNS, [{"n": 249}, {}])[0], [{"i": 249}, {"i": 0}])

    def test_the_least_of_several_long_lanes(self):
        self.too_long(2, run_plain, TURNS, [{}, {"n": 249}, {"n": 300}, {"n": 250}, {}, {"n": 60000}])
        # The lane that is in the loop longest, or that comes to its own first, is not the least one.
        kernel = (("x",), (("if", "a", (("while", 1, ()),), ()), ("while", "b", (SET_X,))))
        self.too_long(1, run_plain, kernel, [{}, {"b": 1}, {"a": 1}])
        self.too_long(0, run_plain, kernel, [{"b": 1}, {"a": 1}, {"a": 1, "b": 1}])

    def test_a_long_lane_among_lanes_that_are_done(self):
        self.too_long(1, run_plain, (("x",), (("while", "a", ()),)), [{}, {"a": 1}, {}])

    def test_the_order_of_the_errors(self):
        endless = (("x",), (("while", 1, ()),))
        for thing in NO_KERNELS:
            for launch in NO_LAUNCHES[::7]:
                self.fails(NoKernel, run_plain, thing, launch)
        for launch in NO_LAUNCHES:
            self.fails(NoLaunch, run_plain, endless, launch)
        self.fails(NoLaunch, run_plain, endless, [{}, SEVENTEEN])
        self.too_long(0, run_plain, endless, [{}])


if __name__ == "__main__":
    unittest.main()
