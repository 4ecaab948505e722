"""The least price of all weaves, and the prices that show it."""

import copy
import random
import unittest

from samples import EXAMPLE, LOOP, NO_KERNELS, RunCase, SET_X, SET_Y, STRANGE, WOVEN
from slow import all_weaves, many_in, random_kernel, random_launch, slow_choices, slow_issues, slow_lane
from sideweave import fewest as module
from sideweave.errors import NoKernel, NoLaunch, TooMany
from sideweave.fewest import fewest, is_prices
from sideweave.prices import price
from sideweave.weaves import is_weave, plain_weave
from test_prices import NO_LISTS, ROUNDS, TURNS

ROOT = ((),)
ADD = ("set", "x", ("+", "x", "b"))
BOTH = [[{"a": 1}, {}]]
# The greatest prices of EXAMPLE for BOTH.
INNER = {(0, 0): 2, (0, 1): 2, (1, 0): 1, (1, 1): 1, (2, 0): 1, (2, 1): 0}
GREATEST = {ROOT: {(0,): 3, (1,): 0}, ((0, 0), (0, 1)): INNER}


def many_sets(many):
    return (SET_X,) * many


def four_sides(one, two, three, four, before=()):
    """Return a kernel of which one problem has these bodies as its sides."""
    return (("x",), before + (("if", "a", (("if", "b", one, two),), (("if", "c", three, four),)),))


def loops(*lengths):
    """Return a body of whiles with so many sets each."""
    return tuple(("while", "w", many_sets(length)) for length in lengths)


def loops_of_1500_states(before=()):
    return four_sides(loops(0, 2), loops(0, 0, 0, 1), loops(0, 0, 0, 1), loops(0, 0, 0, 1), before)


class FewestCase(RunCase):
    def check(self, kernel, launches, answer):
        """Check the least price, and that the weave has it and the prices show it."""
        found = self.call(fewest, kernel, launches)
        self.assertIs(found.__class__, tuple)
        least, weave, table = found
        self.assertEqual(least, answer)
        self.assertIs(least.__class__, int)
        self.is_true(is_weave, (kernel[1],), weave)
        self.assertEqual(price(kernel, weave, launches), least)
        self.assertEqual(sum(len(slow_issues(kernel, weave, launch)) for launch in launches), least)
        self.assertEqual(table[ROOT][(0,)], least)
        self.is_true(is_prices, kernel, launches, table)
        return table


class Fewest(FewestCase):
    def test_interface(self):
        self.assertEqual((fewest.__module__, is_prices.__module__), (module.__name__,) * 2)

    def test_the_example(self):
        found = self.call(fewest, EXAMPLE, BOTH)
        self.assertEqual(found[:2], (3, WOVEN))
        self.assertEqual(self.check(EXAMPLE, BOTH, 3), found[2])

    def test_kernels_with_one_weave(self):
        self.check((("x",), ()), [[{}]], 0)
        self.check((("x",), (SET_X, SET_Y, SET_X)), [[{}, {}]], 3)
        self.check((("x",), (SET_X, SET_Y, SET_X)), [[{}], [{}], [{}]], 9)
        self.check(LOOP, [[{}]], 5)
        self.check(TURNS, [[{"n": 3}, {"n": 1}], [{}]], 8)
        self.assertEqual(self.call(fewest, TURNS, [[{}]])[1], ROUNDS)

    def test_lanes_that_take_one_side(self):
        self.check(EXAMPLE, [[{}, {}]], 2)
        self.check(EXAMPLE, [[{"a": 1}]], 3)
        self.check(EXAMPLE, [[{"a": 1}], [{}]], 5)
        self.check(EXAMPLE, [[{"a": 1}], [{}, {"a": 1}]], 6)

    def test_sides_of_sets(self):
        # The longest sets in common, in order, are issued once: x y of x y x and y x y.
        z = ("set", "z", 3)
        for first, second, answer in (((SET_X, SET_Y, SET_X), (SET_Y, SET_X, SET_Y), 5), ((SET_X,), (), 2),
                                      ((SET_X, SET_Y), (SET_Y, SET_X), 4), ((SET_X, SET_X), (SET_X,), 3),
                                      ((SET_X,), (SET_Y,), 3), ((SET_X, SET_Y, z), (SET_X, z), 4),
                                      ((z, SET_X, SET_Y), (SET_X, SET_Y, z), 5)):
            self.check((("x",), (("if", "a", first, second),)), BOTH, answer)
            self.check((("x",), (("if", "a", second, first),)), BOTH, answer)

    def test_which_sets_are_woven_depends_on_the_launches(self):
        # In the loop SET_X is done twice, SET_Y once; both can't be woven, for they stand crosswise.
        one, other = ("while", "p", (("set", "p", ("-", "p", 1)),)), SET_Y
        kernel = (("x",), (("if", "a", (one, other), (other, one)),))
        self.check(kernel, [[{"a": 1, "p": 2}, {"p": 2}]], 1 + 2 + 5)
        self.check(kernel, [[{"a": 1}, {}]], 1 + 3)

    def test_splits_with_different_tests(self):
        inner = (SET_X, SET_Y, ADD)
        for term, answer in (("b", 5), ("c", 6)):
            kernel = (("x",), (("if", "a", (("if", "b", inner, ()),), (("if", term, (), inner),)),))
            self.check(kernel, [[{"a": 1, "b": 1}, {}]], answer)

    def test_loops_with_different_tests(self):
        inner = (("set", "p", ("-", "p", 1)), SET_X)
        for term, answer in (("p", 1 + 4 + 6), (("+", "p", 0), 1 + 8 + 6)):
            kernel = (("x",), (("if", "a", (("while", "p", inner),), (("while", term, inner),)),))
            self.check(kernel, [[{"a": 1, "p": 3}, {"p": 3}]], answer)

    def test_bodies_that_no_lane_does(self):
        inner = ("while", "b", (("if", "b", (), ()), SET_X))
        kernel = (("x",), (("if", "a", (inner, SET_X), (inner,)), ("while", "c", (inner,))))
        self.check(kernel, [[{}]], 3)

    def test_four_sides(self):
        kernel = four_sides((SET_X, SET_Y), (SET_Y,), (SET_X,), (ADD, SET_X, SET_Y))
        launches = [[{}, {"a": 1}, {"c": 1}, {"a": 1, "b": 1}]]
        table = self.check(kernel, launches, 6)
        self.assertEqual(len(table), 5)
        self.assertEqual(len(table[((0, 0, 0, 0), (0, 0, 0, 1), (0, 1, 0, 0), (0, 1, 0, 1))]), 3 * 2 * 2 * 4)

    def test_which_problems_and_states_there_are(self):
        one, other = ("while", "p", (SET_X,)), ("if", "b", (SET_X,), (SET_Y, SET_Y))
        kernel = (("x",), (SET_X, ("if", "a", (one, other), (one, SET_Y)), one))
        sides = {ROOT: 3, ((2, 0),): 1, ((1, 0), (1, 1)): 4, ((1, 0, 0, 0),): 1, ((1, 1, 0, 0),): 1,
                 ((1, 0, 0, 0), (1, 1, 0, 0)): 2, ((1, 0, 1, 0), (1, 0, 1, 1)): 3}
        table = self.call(fewest, kernel, [[{}]])[2]
        self.assertEqual({problem: sum(max(table[problem])) for problem in table}, sides)
        self.assertEqual(sorted(table[((1, 0, 1, 0), (1, 0, 1, 1))]), [(0, 0), (0, 1), (0, 2), (1, 0), (1, 1), (1, 2)])

    def test_against_all_weaves(self):
        source = random.Random(51)
        tried = better = 0
        while tried < 120:
            kernel = random_kernel(source, source.randrange(3, 9))
            launches = small_launches(source, kernel)
            if launches and 0 < number_of_weaves((kernel[1],), 400) <= 400:
                costs = [sum(len(slow_issues(kernel, weave, launch)) for launch in launches)
                         for weave in all_weaves((kernel[1],))]
                self.check(kernel, launches, min(costs))
                tried += 1
                better += min(costs) < max(costs)
        self.assertGreater(better, 5)

    def test_greater_kernels(self):
        source = random.Random(52)
        tried = 0
        while tried < 60:
            kernel = random_kernel(source, 24)
            launches = small_launches(source, kernel)
            if launches and many_in(kernel[1]) > 8:
                try:
                    least = self.call(fewest, kernel, launches)[0]
                except TooMany:
                    continue
                self.check(kernel, launches, least)
                self.assertLessEqual(least, price(kernel, plain_weave(kernel), launches))
                tried += 1

    def test_answers_belong_to_the_caller(self):
        self.stays(fewest, EXAMPLE, BOTH)
        self.stays(fewest, four_sides((SET_X,), (SET_X,), (), (SET_X,)), BOTH)

    def test_launches_that_were_changed_are_read_anew(self):
        launches = [[{"a": 1}, {}]]
        self.assertEqual(fewest(EXAMPLE, launches)[0], 3)
        table = fewest(EXAMPLE, launches)[2]
        launches[0][0]["a"] = 0
        self.assertEqual(fewest(EXAMPLE, launches)[0], 2)
        self.is_false(is_prices, EXAMPLE, launches, table)
        launches.append([{"a": 1}])
        self.assertEqual(fewest(EXAMPLE, launches)[0], 5)
        self.is_true(is_prices, EXAMPLE, launches, table)


def small_launches(source, kernel):
    """Return up to three launches without long lanes."""
    launches = [random_launch(source, 4) for _ in range(source.randrange(1, 4))]
    return [launch for launch in launches if None not in [slow_lane(kernel, registers)[1] for registers in launch]]


def number_of_weaves(bodies, most, done=None):
    """Return the number of weaves of these bodies, or some number greater than most."""
    done = (0,) * len(bodies) if done is None else done
    found = 0 if slow_choices(bodies, done) else 1
    for sides in slow_choices(bodies, done):
        nexts = [bodies[side][done[side]] for side in sides]
        inner = [part for statement in nexts if statement[0] != "set" for part in statement[2:]]
        number = number_of_weaves(inner, most) if inner else 1
        if number <= most:
            number *= number_of_weaves(bodies, most, tuple(at + (side in sides) for side, at in enumerate(done)))
        found += number
        if found > most:
            break
    return found


class IsPrices(FewestCase):
    def with_change(self, problem, state, number):
        """Return the greatest prices with another number in one place."""
        changed = copy.deepcopy(GREATEST)
        changed[problem][state] = number
        return changed

    def test_the_greatest_prices(self):
        self.is_true(is_prices, EXAMPLE, BOTH, GREATEST)
        self.assertEqual(self.call(fewest, EXAMPLE, BOTH)[2], GREATEST)

    def test_a_number_one_too_great(self):
        for problem in GREATEST:
            for state in GREATEST[problem]:
                number = GREATEST[problem][state] + 1
                self.is_false(is_prices, EXAMPLE, BOTH, self.with_change(problem, state, number))
                self.is_false(is_prices, EXAMPLE, BOTH, self.with_change(problem, state, 10 ** 19))

    def test_smaller_numbers(self):
        self.is_true(is_prices, EXAMPLE, BOTH, self.with_change(ROOT, (0,), 2))
        self.is_true(is_prices, EXAMPLE, BOTH, self.with_change(ROOT, (0,), 0))
        self.is_true(is_prices, EXAMPLE, BOTH, self.with_change(((0, 0), (0, 1)), (2, 0), 1))
        # The numbers ahead of a smaller one are then too great.
        self.is_false(is_prices, EXAMPLE, BOTH, self.with_change(((0, 0), (0, 1)), (0, 0), 1))
        self.is_false(is_prices, EXAMPLE, BOTH, self.with_change(((0, 0), (0, 1)), (1, 0), 0))
        smaller = copy.deepcopy(GREATEST)
        smaller[ROOT][(0,)], smaller[((0, 0), (0, 1))][(0, 0)] = 2, 1
        self.is_true(is_prices, EXAMPLE, BOTH, smaller)
        smaller[ROOT][(0,)] = 3
        self.is_false(is_prices, EXAMPLE, BOTH, smaller)

    def test_all_0(self):
        for kernel in (EXAMPLE, LOOP, four_sides((SET_X,), (SET_X,), (), (SET_X,))):
            table = self.call(fewest, kernel, BOTH)[2]
            zeros = {problem: dict.fromkeys(table[problem], 0) for problem in table}
            self.is_true(is_prices, kernel, BOTH, zeros)
            zeros[ROOT][(1,)] = 1
            self.is_false(is_prices, kernel, BOTH, zeros)

    def test_a_number_other_than_0_where_all_is_done(self):
        self.is_false(is_prices, (("x",), ()), BOTH, {ROOT: {(0,): 1}})
        self.is_true(is_prices, (("x",), ()), BOTH, {ROOT: {(0,): 0}})
        self.is_false(is_prices, EXAMPLE, BOTH, self.with_change(ROOT, (1,), 1))
        self.is_false(is_prices, EXAMPLE, BOTH, self.with_change(((0, 0), (0, 1)), (2, 1), 1))

    def test_numbers_of_other_kinds(self):
        for problem, state in ((ROOT, (0,)), (ROOT, (1,)), (((0, 0), (0, 1)), (2, 1)), (((0, 0), (0, 1)), (1, 0))):
            for number in (-1, True, False, None, "0", "", (), (0,), [], [0], {}, {0: 0}, -10 ** 19):
                self.is_false(is_prices, EXAMPLE, BOTH, self.with_change(problem, state, number))

    def test_states_too_few_or_too_many(self):
        for problem in GREATEST:
            for state in GREATEST[problem]:
                fewer = copy.deepcopy(GREATEST)
                del fewer[problem][state]
                self.is_false(is_prices, EXAMPLE, BOTH, fewer)
                for other in ((), (9,), (9, 0), (0, 0, 0), None, 0, "0", (state,), -1, (-1,), ("0",)):
                    self.is_false(is_prices, EXAMPLE, BOTH, fewer | {problem: fewer[problem] | {other: 0}})
                    self.is_false(is_prices, EXAMPLE, BOTH, self.with_change(problem, other, 0))

    def test_problems_too_few_or_too_many(self):
        for problem in GREATEST:
            fewer = {other: GREATEST[other] for other in GREATEST if other != problem}
            self.is_false(is_prices, EXAMPLE, BOTH, fewer)
            for other in ((), ((0, 0),), ((0, 1), (0, 0)), ((0, 0), (0, 1), (0, 1)), ((), ()), None, 0, "a", (0, 0),
                          ((1, 0),)):
                self.is_false(is_prices, EXAMPLE, BOTH, fewer | {other: GREATEST[problem]})
                self.is_false(is_prices, EXAMPLE, BOTH, GREATEST | {other: {}})
                self.is_false(is_prices, EXAMPLE, BOTH, GREATEST | {other: {(0,): 0, (1,): 0}})
        self.is_false(is_prices, EXAMPLE, BOTH, {})

    def test_booleans_in_keys(self):
        inner = {((0, 0), (0, 1)): INNER}
        self.is_false(is_prices, EXAMPLE, BOTH, {ROOT: {(False,): 3, (1,): 0}} | inner)
        self.is_false(is_prices, EXAMPLE, BOTH, {ROOT: {(0,): 3, (True,): 0}} | inner)
        self.is_false(is_prices, EXAMPLE, BOTH, {ROOT: GREATEST[ROOT], ((0, 0), (0, True)): INNER})
        self.is_false(is_prices, EXAMPLE, BOTH, {ROOT: GREATEST[ROOT], ((False, 0), (0, 1)): INNER})
        states = {(False if state == (0, 0) else state[0], state[1]): INNER[state] for state in INNER}
        self.is_false(is_prices, EXAMPLE, BOTH, {ROOT: GREATEST[ROOT], ((0, 0), (0, 1)): states})

    def test_what_is_no_dict(self):
        for thing in STRANGE:
            self.is_false(is_prices, EXAMPLE, BOTH, thing)
            self.is_false(is_prices, (("x",), ()), BOTH, thing)
            for problem in GREATEST:
                self.is_false(is_prices, EXAMPLE, BOTH, GREATEST | {problem: thing})
        self.is_false(is_prices, EXAMPLE, BOTH, [(problem, GREATEST[problem]) for problem in GREATEST])
        self.is_false(is_prices, EXAMPLE, BOTH, (GREATEST,))
        self.is_false(is_prices, EXAMPLE, BOTH, {ROOT: GREATEST[ROOT], ((0, 0), (0, 1)): list(INNER.items())})

    def test_the_order_of_the_keys_means_nothing(self):
        turned = {problem: dict(reversed(GREATEST[problem].items())) for problem in reversed(GREATEST)}
        self.is_true(is_prices, EXAMPLE, BOTH, turned)

    def test_prices_of_other_launches_and_kernels(self):
        self.is_false(is_prices, EXAMPLE, [[{}]], GREATEST)
        self.is_true(is_prices, EXAMPLE, [[{"a": 1}], [{}]], GREATEST)
        self.is_false(is_prices, LOOP, BOTH, GREATEST)
        self.is_true(is_prices, EXAMPLE, BOTH, self.call(fewest, EXAMPLE, [[{}]])[2])

    def test_the_cost_of_splits_and_loops_has_the_price_within(self):
        kernel = (("x",), (("while", "p", (("set", "p", ("-", "p", 1)),)),))
        launches = [[{"p": 3}]]
        right = {ROOT: {(0,): 7, (1,): 0}, ((0, 0),): {(0,): 3, (1,): 0}}
        self.assertEqual(self.check(kernel, launches, 7), right)
        self.is_false(is_prices, kernel, launches, right | {((0, 0),): {(0,): 2, (1,): 0}})
        self.is_true(is_prices, kernel, launches, right | {ROOT: {(0,): 6, (1,): 0}, ((0, 0),): {(0,): 2, (1,): 0}})

    def test_steps_of_several_sides_bound_the_numbers(self):
        kernel = four_sides((SET_X,), (SET_X,), (SET_X,), (SET_X,))
        launches = [[{}, {"a": 1}, {"c": 1}, {"a": 1, "b": 1}]]
        table = self.check(kernel, launches, 4)
        sides = max(table, key=len)
        self.assertEqual(table[sides], {state: int(min(state) == 0) for state in table[sides]})
        for problem in table:
            for state in table[problem]:
                changed = copy.deepcopy(table)
                changed[problem][state] += 1
                self.is_false(is_prices, kernel, launches, changed)


class HowMany(FewestCase):
    def refuses(self, kernel, launches):
        self.fails(TooMany, fewest, kernel, launches)
        for thing in (None, {}, GREATEST):
            self.fails(TooMany, is_prices, kernel, launches, thing)

    def test_a_problem_with_just_400_states_and_with_more(self):
        kernel = four_sides(many_sets(3), many_sets(4), many_sets(3), many_sets(4))
        table = self.check(kernel, BOTH, 7)
        self.assertEqual(max(map(len, table.values())), 400)
        self.assertEqual(sum(map(len, table.values())), 446)
        self.refuses(four_sides(many_sets(8), many_sets(8), many_sets(4), ()), BOTH)
        self.refuses(four_sides(many_sets(5), many_sets(4), many_sets(3), many_sets(4)), BOTH)
        self.refuses(four_sides(many_sets(5), many_sets(5), many_sets(5), many_sets(5)), BOTH)

    def test_just_1500_states_in_all_and_more(self):
        table = self.check(loops_of_1500_states(), [[{}]], 6)
        self.assertEqual(sum(map(len, table.values())), 1500)
        self.assertLessEqual(max(map(len, table.values())), 400)
        self.refuses(loops_of_1500_states((SET_X,)), [[{}]])
        self.refuses(loops_of_1500_states((SET_X, SET_X)), [[{}]])

    def test_bodies_that_no_lane_does_count(self):
        self.refuses((("x",), (("while", 0, four_sides(many_sets(8), many_sets(8), many_sets(4), ())[1]),)), [[{}]])
        sides = (many_sets(3), many_sets(4), many_sets(3), many_sets(4))
        self.check((("x",), (("while", 0, four_sides(*sides)[1]),)), [[{}]], 1)

    def test_the_order_of_the_errors(self):
        many = four_sides(many_sets(5), many_sets(5), many_sets(5), many_sets(5))
        long = four_sides(many_sets(5), many_sets(5), many_sets(4), many_sets(4), (("while", "n", ()),))
        self.refuses(many, [[{}]])
        self.refuses(long, [[{}], [{}, {}]])
        self.too_long(1, fewest, long, [[{}, {"n": 1}]])
        self.too_long(1, is_prices, long, [[{}], [{}, {"n": 1}, {"n": 1}], [{"n": 1}]], None)
        for thing in NO_KERNELS:
            self.fails(NoKernel, fewest, thing, None)
            self.fails(NoKernel, is_prices, thing, None, None)
        for thing in NO_LISTS:
            self.fails(NoLaunch, fewest, long, thing)
            self.fails(NoLaunch, is_prices, long, thing, None)

    def test_what_is_wrong_alone(self):
        for thing in NO_KERNELS:
            self.fails(NoKernel, fewest, thing, BOTH)
            self.fails(NoKernel, is_prices, thing, BOTH, GREATEST)
        for thing in NO_LISTS:
            self.fails(NoLaunch, fewest, EXAMPLE, thing)
            self.fails(NoLaunch, is_prices, EXAMPLE, thing, GREATEST)
        for lane, launches in ((0, [[{"n": 250}]]), (2, [[{}, {}], [{}, {}, {"n": 300}], [{"n": 300}]])):
            self.too_long(lane, fewest, TURNS, launches)
            self.too_long(lane, is_prices, TURNS, launches, {})


if __name__ == "__main__":
    unittest.main()
