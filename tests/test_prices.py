"""Visits, checks and prices."""

import random
import unittest

from samples import EXAMPLE, LOOP, NO_KERNELS, NO_LAUNCHES, NO_WEAVES, RunCase, SET_X, SET_Y, WOVEN
from slow import random_kernel, random_launch, random_weave, slow_issues, slow_lane, slow_visits
from sideweave import prices
from sideweave.errors import NoKernel, NoLaunch, NoWeave
from sideweave.plain import run_plain
from sideweave.prices import checks, price, visits
from sideweave.weaves import plain_weave

STEP = ("set", "i", ("+", "i", 1))
TURNS = (("i",), (("while", ("<", "i", "n"), (STEP,)),))
ROUNDS = (("loop", (0,), (("set", (0,)) + STEP[1:],)),)
# What is no list of one to four launches.
NO_LISTS = tuple([[{}], thing] for thing in NO_LAUNCHES) + tuple([thing] for thing in NO_LAUNCHES) + (
    None, True, False, 0, 1, "a", "", (), {}, [], [{}], [[{}]] * 5, ([{}],), ([{}], [{}]), {0: [{}]}, [[{}], ({},)],
    [[{}], [{}], [{}], [{}], [{}]], [[[{}]]], [{"a": 1}], [[{}], [{}], [{}], None],
)


class PriceCase(RunCase):
    def check(self, kernel, launches, visited, checked):
        """Check the visits and the checks."""
        self.assertEqual(self.call(visits, kernel, launches), visited)
        self.assertEqual(self.call(checks, kernel, launches), checked)

    def check_price(self, kernel, weave, launches, answer):
        """Check a price, also against the number of the issues."""
        found = self.call(price, kernel, weave, launches)
        self.assertEqual(found, answer)
        self.assertIs(found.__class__, int)
        self.assertEqual(found, sum(len(slow_issues(kernel, weave, launch)) for launch in launches))


class Visits(PriceCase):
    def test_interface(self):
        self.assertEqual({function.__module__ for function in (visits, checks, price)}, {prices.__name__})

    def test_the_example(self):
        self.check(LOOP, [[{}]], {(): [(0,)], (0, 0): [(0, 0), (0, 1)]}, {(0, 0): [(0, 0), (0, 1), (0, 2)]})

    def test_the_empty_body(self):
        self.check((("x",), ()), [[{}, {}], [{}]], {(): [(0,), (1,)]}, {})

    def test_branches(self):
        self.check(EXAMPLE, [[{}]], {(): [(0,)], (0, 0): [], (0, 1): [(0,)]}, {})
        self.check(EXAMPLE, [[{"a": 1}]], {(): [(0,)], (0, 0): [(0,)], (0, 1): []}, {})
        self.check(EXAMPLE, [[{"a": 1}, {}]], {(): [(0,)], (0, 0): [(0,)], (0, 1): [(0,)]}, {})
        self.check(EXAMPLE, [[{"a": 1}], [{}], [{"a": 1}, {}]],
                   {(): [(0,), (1,), (2,)], (0, 0): [(0,), (2,)], (0, 1): [(1,), (2,)]}, {})

    def test_the_number_of_a_statement_stands_in_the_path(self):
        last = ("if", "b", (SET_X, ("if", 1, (), ())), ())
        kernel = (("x",), (SET_X, ("if", "a", (), ()), SET_X, ("while", 0, ()), last))
        visited = {(): [(0,)], (1, 0): [], (1, 1): [(0,)], (3, 0): [], (4, 0): [(0,)], (4, 1): [],
                   (4, 0, 1, 0): [(0,)], (4, 0, 1, 1): []}
        self.check(kernel, [[{"b": 1}]], visited, {(3, 0): [(0, 0)]})

    def test_empty_bodies_are_visited(self):
        self.check((("x",), (("if", "a", (), ()),)), [[{}]], {(): [(0,)], (0, 0): [], (0, 1): [(0,)]}, {})

    def test_bodies_that_no_lane_does(self):
        inner = ("while", "b", (("if", "b", (), ()),))
        kernel = (("x",), (("if", "a", (inner,), (SET_X,)), ("while", "c", (inner,))))
        visited = {(): [(0,)], (0, 0): [], (0, 0, 0, 0): [], (0, 0, 0, 0, 0, 0): [], (0, 0, 0, 0, 0, 1): [],
                   (0, 1): [(0,)], (1, 0): [], (1, 0, 0, 0): [], (1, 0, 0, 0, 0, 0): [], (1, 0, 0, 0, 0, 1): []}
        self.check(kernel, [[{}]], visited, {(0, 0, 0, 0): [], (1, 0): [(0, 0)], (1, 0, 0, 0): []})

    def test_a_loop_with_no_turn_is_checked_once(self):
        self.check(TURNS, [[{}], [{}, {}]], {(): [(0,), (1,)], (0, 0): []}, {(0, 0): [(0, 0), (1, 0)]})

    def test_lanes_with_different_numbers_of_turns(self):
        self.check(TURNS, [[{"n": 1}, {"n": 3}, {}]], {(): [(0,)], (0, 0): [(0, 0), (0, 1), (0, 2)]},
                   {(0, 0): [(0, 0), (0, 1), (0, 2), (0, 3)]})

    def test_the_same_lane_twice_and_two_launches(self):
        lane = {"n": 1}
        self.check(TURNS, [[lane, lane]], {(): [(0,)], (0, 0): [(0, 0)]}, {(0, 0): [(0, 0), (0, 1)]})
        self.check(TURNS, [[lane], [lane, {"n": 2}]], {(): [(0,), (1,)], (0, 0): [(0, 0), (1, 0), (1, 1)]},
                   {(0, 0): [(0, 0), (0, 1), (1, 0), (1, 1), (1, 2)]})
        launch = [{"n": 1}]
        self.check(TURNS, [launch, launch], {(): [(0,), (1,)], (0, 0): [(0, 0), (1, 0)]},
                   {(0, 0): [(0, 0), (0, 1), (1, 0), (1, 1)]})

    def test_a_while_that_one_lane_enters_several_times(self):
        inner = ("while", ("<", "j", "i"), (("set", "j", ("+", "j", 1)),))
        kernel = (("i",), (("while", ("<", "i", "n"), (inner, STEP, ("set", "j", 0))),))
        visited = {(): [(0,)], (0, 0): [(0, 0), (0, 1), (0, 2)], (0, 0, 0, 0): [(0, 1, 0), (0, 2, 0), (0, 2, 1)]}
        checked = {(0, 0): [(0, 0), (0, 1), (0, 2), (0, 3)],
                   (0, 0, 0, 0): [(0, 0, 0), (0, 1, 0), (0, 1, 1), (0, 2, 0), (0, 2, 1), (0, 2, 2)]}
        self.check(kernel, [[{"n": 3}, {"n": 2}]], visited, checked)

    def test_turns_count_for_the_whiles_around_alone(self):
        kernel = (("x",), (("while", "a", (("set", "a", 0),)), ("while", "b", (("if", "b", (("set", "b", 0),), ()),))))
        visited = {(): [(0,)], (0, 0): [(0, 0)], (1, 0): [(0, 0)], (1, 0, 0, 0): [(0, 0)], (1, 0, 0, 1): []}
        checked = {(0, 0): [(0, 0), (0, 1)], (1, 0): [(0, 0), (0, 1)]}
        self.check(kernel, [[{"a": 1, "b": 1}]], visited, checked)

    def test_more_than_nine_turns(self):
        turns = [(0, turn) for turn in range(13)]
        self.check(TURNS, [[{"n": 3}, {"n": 12}]], {(): [(0,)], (0, 0): turns[:-1]}, {(0, 0): turns})
        launches = [[{"n": 11}], [{}], [{"n": 2}, {"n": 10}]]
        both = [(0, turn) for turn in range(11)] + [(2, turn) for turn in range(10)]
        self.assertEqual(self.call(visits, TURNS, launches)[(0, 0)], both)

    def test_against_another_way(self):
        source = random.Random(41)
        for _ in range(200):
            kernel = random_kernel(source, source.randrange(1, 25))
            launches = some_launches(source, kernel)
            if launches:
                self.check(kernel, launches, *slow_visits(kernel, launches))

    def test_answers_belong_to_the_caller(self):
        self.stays(visits, TURNS, [[{"n": 2}], [{}]])
        self.stays(checks, TURNS, [[{"n": 2}], [{}]])

    def test_launches_that_were_changed_are_read_anew(self):
        launches = [[{"n": 1}]]
        self.assertEqual(visits(TURNS, launches)[(0, 0)], [(0, 0)])
        launches[0][0]["n"] = 2
        self.check(TURNS, launches, {(): [(0,)], (0, 0): [(0, 0), (0, 1)]}, {(0, 0): [(0, 0), (0, 1), (0, 2)]})
        self.assertEqual(price(TURNS, ROUNDS, launches), 5)
        launches[0].append({"n": 3})
        self.assertEqual(price(TURNS, ROUNDS, launches), 7)
        launches.append([{}])
        self.assertEqual(price(TURNS, ROUNDS, launches), 8)


def some_launches(source, kernel):
    """Return up to four launches without long lanes."""
    launches = [random_launch(source, 4) for _ in range(source.randrange(1, 5))]
    return [launch for launch in launches if None not in [slow_lane(kernel, registers)[1] for registers in launch]]


class Prices(PriceCase):
    def test_the_example_of_the_document(self):
        for launches, answer in (([[{"a": 1, "b": 5}, {"b": 5}]], 3), ([[{}]], 2), ([[{"a": 1}]], 3),
                                 ([[{"a": 1}], [{}]], 5), ([[{"a": 1}, {}]] * 4, 12)):
            self.check_price(EXAMPLE, WOVEN, launches, answer)
        self.check_price(EXAMPLE, plain_weave(EXAMPLE), [[{"a": 1}, {}]], 4)
        self.check_price(EXAMPLE, plain_weave(EXAMPLE), [[{"a": 1}], [{}]], 5)

    def test_the_empty_weave(self):
        self.check_price((("x",), ()), (), [[{}], [{}]], 0)

    def test_bodies_that_no_lane_does_cost_nothing(self):
        kernel = (("x",), (("if", "a", (SET_X, ("while", 1, (SET_Y,)), SET_X), ()),))
        self.check_price(kernel, plain_weave(kernel), [[{}]], 1)

    def test_loops(self):
        self.check_price(TURNS, ROUNDS, [[{}]], 1)
        self.check_price(TURNS, ROUNDS, [[{"n": 3}, {"n": 2}]], 7)
        self.check_price(TURNS, ROUNDS, [[{"n": 3}], [{"n": 2}]], 12)

    def test_splits_and_loops_of_several_sides_with_equal_and_different_tests(self):
        less = ("set", "p", ("-", "p", 1))
        one, other = ("while", "p", (less,)), ("while", "q", (less, ("set", "q", 0)))
        for second in (one, other):
            kernel = (("x",), (("if", "a", (one,), (second,)),))
            inner = (("set", (0, 1), "p", ("-", "p", 1)),) + ((("set", (1,), "q", 0),) if second is other else ())
            weave = (("split", (0,), (("loop", (0, 1), inner),)),)
            self.check_price(kernel, weave, [[{"a": 1, "p": 3}, {"p": 1, "q": 1}]], 8 if second is one else 11)
            self.check_price(kernel, weave, [[{"a": 1, "p": 3}], [{"p": 1, "q": 1}]], 8 + (4 if second is one else 5))
        for term, answer in (("b", 4), ("c", 5)):
            kernel = (("x",), (("if", "a", (("if", "b", (SET_X,), ()),), (("if", term, (SET_Y,), (SET_X,)),)),))
            inner = (("set", (0, 3), "x", 1), ("set", (2,), "y", 2))
            weave = (("split", (0,), (("split", (0, 1), inner),)),)
            self.check_price(kernel, weave, [[{"a": 1, "b": 1}, {"b": 1, "c": 1}]], answer)

    def test_against_another_way(self):
        source = random.Random(42)
        for _ in range(300):
            kernel = random_kernel(source, source.randrange(1, 25))
            launches = some_launches(source, kernel)
            if launches:
                weave = random_weave(source, (kernel[1],))
                self.check_price(kernel, weave, launches, self.call(price, kernel, weave, launches))
                issues = [run_plain(kernel, launch)[1] for launch in launches]
                self.check_price(kernel, plain_weave(kernel), launches, sum(map(len, issues)))


class Errors(RunCase):
    def test_what_is_no_kernel(self):
        for thing in NO_KERNELS:
            self.fails(NoKernel, visits, thing, [[{}]])
            self.fails(NoKernel, checks, thing, [[{}]])
            self.fails(NoKernel, price, thing, WOVEN, [[{}]])

    def test_what_are_no_launches(self):
        for thing in NO_LISTS:
            self.fails(NoLaunch, visits, EXAMPLE, thing)
            self.fails(NoLaunch, checks, EXAMPLE, thing)
            self.fails(NoLaunch, price, EXAMPLE, WOVEN, thing)

    def test_one_to_four_launches(self):
        for many in (1, 2, 3, 4):
            self.assertEqual(len(self.call(visits, EXAMPLE, [[{}]] * many)[()]), many)
        for many in (0, 5, 6):
            self.fails(NoLaunch, visits, EXAMPLE, [[{}]] * many)

    def test_what_is_no_weave(self):
        for thing in NO_WEAVES:
            self.fails(NoWeave, price, EXAMPLE, thing, [[{}]])
        self.fails(NoWeave, price, EXAMPLE, plain_weave(LOOP), [[{}]])
        self.fails(NoWeave, price, LOOP, WOVEN, [[{}]])

    def test_long_lanes_of_the_first_launch_that_has_one(self):
        for lane, launches in ((0, [[{"n": 250}]]), (1, [[{}, {"n": 300}], [{"n": 300}]]),
                               (2, [[{"n": 249}], [{}, {}, {"n": 250}, {"n": 999}], [{"n": 300}], [{}, {"n": 300}]]),
                               (0, [[{}, {}], [{"n": 400}, {"n": 500}], [{"n": 400}]]),
                               (3, [[{}], [{}] * 3 + [{"n": 250}]])):
            self.too_long(lane, visits, TURNS, launches)
            self.too_long(lane, checks, TURNS, launches)
            self.too_long(lane, price, TURNS, ROUNDS, launches)
        self.assertEqual(self.call(price, TURNS, ROUNDS, [[{"n": 249}]] * 4), 4 * 499)

    def test_the_order_of_the_errors(self):
        endless, weave = (("x",), (("while", 1, ()),)), (("loop", (0,), ()),)
        for thing in NO_KERNELS:
            self.fails(NoKernel, visits, thing, None)
            self.fails(NoKernel, checks, thing, [])
            self.fails(NoKernel, price, thing, None, None)
        for thing in NO_WEAVES:
            self.fails(NoWeave, price, endless, thing, None)
            self.fails(NoWeave, price, endless, thing, [[{}]])
        for thing in NO_LISTS:
            self.fails(NoLaunch, visits, endless, thing)
            self.fails(NoLaunch, checks, endless, thing)
            self.fails(NoLaunch, price, endless, weave, thing)
        self.too_long(0, price, endless, weave, [[{}]])


if __name__ == "__main__":
    unittest.main()
