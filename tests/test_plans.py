"""Plans: a kernel with launches, a weave and prices, and what was there before."""

import copy
import random
import unittest
from unittest import mock

from samples import EXAMPLE, LOOP, NO_KERNELS, NO_LAUNCHES, RunCase, SET_X, SET_Y, STRANGE, WOVEN, holders
from slow import random_launch, slow_lane
from sideweave import plans
from sideweave.codes import code_of, is_code, run_code
from sideweave.errors import Full, NoKernel, NoLaunch, NoNumber, NoPass, NoUndo, TooLong, TooMany
from sideweave.fewest import fewest, is_prices
from sideweave.passes import drop, fold, pull, same
from sideweave.plans import Plan
from sideweave.prices import price
from sideweave.weaves import is_weave, plain_weave
from test_codes import TURNS
from test_fewest import four_sides, loops_of_1500_states, many_sets
from test_passes import drawn_kernels

BOTH = [{"a": 1}, {}]
ROOT = ((),)
PASSES = {"fold": fold, "drop": drop, "same": same, "pull": pull}
MANY = four_sides(many_sets(5), many_sets(5), many_sets(5), many_sets(5))
# Each pass makes something else of it.
LARGE = (("x", "y"), (
    ("set", "z", 4),
    ("if", "a", (SET_X, ("set", "y", ("+", 1, 1))), (SET_X, ("if", "b", (SET_Y,), (SET_Y,)))),
    ("while", ("<", "i", "n"), (("set", "i", ("+", "i", ("*", 1, 1))), ("if", "a", (SET_X,), (SET_Y, SET_X)))),
))
NO_NUMBERS = (None, True, False, -1, 4, "", "0", (), (0,), [], [0], {}, {0: 0}, -10 ** 19, 10 ** 19, 65536)
NO_PASSES = STRANGE + (
    "folds", "Fold", "fold ", "foldfold", "live", "undo", "improve", ("fold",), ["fold"], {"fold": 1},
)


def zeros(kernel):
    """Return the prices of a kernel that are 0 everywhere."""
    # Which problems and states there are does not depend on the terms, and so no lane is long.
    table = fewest((kernel[0], without_turns(kernel[1])), [[{}]])[2]
    return {problem: dict.fromkeys(table[problem], 0) for problem in table}


def without_turns(body):
    """Return a body in which no while is entered."""
    found = []
    for statement in body:
        if statement[0] != "set":
            term = 0 if statement[0] == "while" else statement[1]
            statement = (statement[0], term) + tuple(without_turns(part) for part in statement[2:])
        found.append(statement)
    return tuple(found)


def shown(plan):
    """Return all that a plan tells."""
    return plan.kernel(), plan.launches(), plan.weave(), plan.prices(), plan.bounds(), plan.code()


class PlanCase(RunCase):
    def check(self, plan, kernel, launches, weave, prices):
        """Check all that a plan tells, each time in new lists and dicts."""
        first, second = shown(plan), shown(plan)
        high = price(kernel, weave, launches) if launches else 0
        self.assertEqual(first, (kernel, launches, weave, prices, (prices[ROOT][(0,)], high), code_of(kernel, weave)))
        self.assertIs(first[4].__class__, tuple)
        old, new = [[id(thing) for thing in holders(list(found))] for found in (first, second)]
        self.assertEqual(set(old) & set(new), set())
        self.assertEqual(len(new), len(set(new)))
        if launches:
            self.is_true(is_prices, kernel, launches, first[3])
            least = fewest(kernel, launches)[0]
            self.assertLessEqual(first[4][0], least)
            self.assertGreaterEqual(first[4][1], least)

    def refuses(self, plan, error, function, *arguments):
        """Check that a call raises just this error, and that nothing changes; return the error."""
        before, kept = shown(plan), copy.deepcopy(arguments)
        with self.assertRaises(error) as caught:
            function(*arguments)
        self.assertIs(caught.exception.__class__, error, arguments)
        self.assertEqual(shown(plan), before)
        self.assertEqual(repr(kept), repr(arguments))
        return caught.exception


class EachCall(PlanCase):
    def test_interface(self):
        self.assertEqual(Plan.__module__, plans.__name__)
        names = "include exclude improve apply undo kernel launches weave prices bounds code".split()
        self.assertEqual([name for name in names if name not in vars(Plan)], [])

    def test_the_example(self):
        plan = Plan(EXAMPLE)
        found = [plan.include([{"a": 1}, {}]), plan.bounds(), plan.improve(), plan.bounds(), plan.undo(), plan.bounds()]
        self.assertEqual(found, [None, (0, 4), None, (3, 3), None, (0, 4)])

    def test_a_new_plan(self):
        for kernel in (EXAMPLE, LOOP, LARGE, (("x",), ()), loops_of_1500_states()):
            plan = Plan(kernel)
            self.check(plan, kernel, [], plain_weave(kernel), zeros(kernel))
            self.assertEqual(plan.bounds(), (0, 0))

    def test_include(self):
        plan = Plan(EXAMPLE)
        launches = [[{"a": 1}, {}], [{}], [{"a": 1}] * 8, [{"a": 1, "b": 3}]]
        for many, launch in enumerate(launches):
            self.assertIsNone(plan.include(launch))
            self.check(plan, EXAMPLE, launches[:many + 1], plain_weave(EXAMPLE), zeros(EXAMPLE))
        self.assertEqual(plan.bounds(), (0, 4 + 2 + 3 + 3))

    def test_include_keeps_weave_and_prices(self):
        plan = Plan(EXAMPLE)
        plan.include(BOTH)
        plan.improve()
        weave, prices = plan.weave(), plan.prices()
        self.assertEqual(weave, WOVEN)
        plan.include([{}])
        self.check(plan, EXAMPLE, [BOTH, [{}]], weave, prices)
        self.assertEqual(plan.bounds(), (3, 5))
        plan.improve()
        self.assertEqual(plan.bounds(), (5, 5))

    def test_exclude(self):
        launches = [[{"a": 1}, {}], [{}], [{"a": 1}], [{"a": 2}, {}]]
        for number in range(4):
            plan = Plan(EXAMPLE)
            for launch in launches:
                plan.include(launch)
            plan.improve()
            weave = plan.weave()
            self.assertIsNone(plan.exclude(number))
            self.check(plan, EXAMPLE, launches[:number] + launches[number + 1:], weave, zeros(EXAMPLE))
            plan.include([{}])
            self.assertEqual(plan.launches()[3], [{}])
        plan.exclude(3)
        for _ in range(3):
            plan.exclude(0)
        self.check(plan, EXAMPLE, [], weave, zeros(EXAMPLE))
        self.assertEqual(plan.bounds(), (0, 0))

    def test_improve(self):
        plan = Plan(EXAMPLE)
        plan.include(BOTH)
        self.assertIsNone(plan.improve())
        least, weave, prices = fewest(EXAMPLE, [BOTH])
        self.check(plan, EXAMPLE, [BOTH], plan.weave(), plan.prices())
        self.assertEqual((plan.weave(), plan.prices(), plan.bounds()), (weave, prices, (least, least)))

    def test_apply(self):
        for name, change in PASSES.items():
            kernel = change(LARGE)
            self.assertNotEqual(kernel, LARGE)
            plan = Plan(LARGE)
            plan.include(BOTH)
            plan.improve()
            self.assertIsNone(plan.apply(name))
            self.check(plan, kernel, [BOTH], plain_weave(kernel), zeros(kernel))

    def test_a_pass_that_changes_nothing_makes_the_weave_plain(self):
        plan = Plan(EXAMPLE)
        plan.include(BOTH)
        plan.improve()
        plan.apply("fold")
        self.check(plan, EXAMPLE, [BOTH], plain_weave(EXAMPLE), zeros(EXAMPLE))
        plan.undo()
        self.assertEqual(plan.weave(), WOVEN)

    def test_several_plans_side_by_side(self):
        one, other = Plan(EXAMPLE), Plan(EXAMPLE)
        one.include(BOTH)
        self.check(other, EXAMPLE, [], plain_weave(EXAMPLE), zeros(EXAMPLE))
        other.include([{}])
        one.improve()
        self.check(other, EXAMPLE, [[{}]], plain_weave(EXAMPLE), zeros(EXAMPLE))
        self.refuses(Plan(EXAMPLE), NoUndo, Plan(EXAMPLE).undo)


class Undo(PlanCase):
    def calls(self):
        """Return calls, by their names and arguments, that are all accepted one behind the other."""
        return [("include", BOTH), ("improve",), ("include", [{}]), ("apply", "pull"), ("improve",), ("exclude", 0),
                ("apply", "fold"), ("improve",), ("apply", "same"), ("apply", "drop"), ("include", [{"b": 1}] * 3)]

    def test_each_kind_of_call(self):
        for many in range(1, len(self.calls()) + 1):
            plan = Plan(LARGE)
            for call, *arguments in self.calls()[:many]:
                before = shown(plan)
                self.assertIsNone(getattr(plan, call)(*arguments))
            self.assertIsNone(plan.undo())
            self.assertEqual(shown(plan), before)

    def test_several(self):
        plan = Plan(LARGE)
        places = [shown(plan)]
        for call, *arguments in self.calls():
            getattr(plan, call)(*arguments)
            places.append(shown(plan))
        for place in reversed(places[:-1]):
            plan.undo()
            self.assertEqual(shown(plan), place)
        self.refuses(plan, NoUndo, plan.undo)

    def test_calls_behind_an_undo(self):
        plan = Plan(EXAMPLE)
        plan.include(BOTH)
        plan.improve()
        plan.undo()
        plan.include([{}])
        plan.undo()
        self.check(plan, EXAMPLE, [BOTH], plain_weave(EXAMPLE), zeros(EXAMPLE))
        plan.undo()
        self.check(plan, EXAMPLE, [], plain_weave(EXAMPLE), zeros(EXAMPLE))
        self.refuses(plan, NoUndo, plan.undo)

    def test_calls_that_were_not_accepted_are_not_undone(self):
        plan = Plan(EXAMPLE)
        plan.include(BOTH)
        self.refuses(plan, NoNumber, plan.exclude, 1)
        self.refuses(plan, NoPass, plan.apply, "live")
        self.refuses(plan, NoLaunch, plan.include, [])
        plan.undo()
        self.check(plan, EXAMPLE, [], plain_weave(EXAMPLE), zeros(EXAMPLE))

    def test_nothing_to_undo(self):
        plan = Plan(EXAMPLE)
        self.refuses(plan, NoUndo, plan.undo)
        plan.kernel(), plan.launches(), plan.weave(), plan.prices(), plan.bounds(), plan.code()
        self.refuses(plan, NoUndo, plan.undo)
        self.refuses(plan, NoLaunch, plan.improve)
        self.refuses(plan, NoUndo, plan.undo)


class Changes(PlanCase):
    def test_later_changes_of_a_launch_mean_nothing(self):
        lane = {"a": 1}
        launch = [lane, {}, lane]
        plan = Plan(EXAMPLE)
        plan.include(launch)
        lane["a"] = 0
        launch.append({})
        expected = [{"a": 1}, {}, {"a": 1}]
        self.check(plan, EXAMPLE, [expected], plain_weave(EXAMPLE), zeros(EXAMPLE))
        plan.include(launch)
        launch.clear()
        lane.clear()
        self.check(plan, EXAMPLE, [expected, [{"a": 0}, {}, {"a": 0}, {}]], plain_weave(EXAMPLE), zeros(EXAMPLE))

    def test_later_changes_of_what_was_returned_mean_nothing(self):
        plan = Plan(LARGE)
        for call, *arguments in [("include", BOTH), ("improve",), ("include", [{}]), ("apply", "pull"), ("improve",)]:
            getattr(plan, call)(*arguments)
            place = copy.deepcopy(shown(plan))
            for thing in holders(list(shown(plan))):
                thing.clear()
            self.assertEqual(shown(plan), place)
        places = [shown(plan)]
        plan.undo()
        for thing in holders(list(shown(plan))):
            thing.clear()
        plan.improve()
        self.assertEqual(shown(plan), places[0])

    def test_launches_that_were_returned_may_be_passed_again(self):
        plan = Plan(EXAMPLE)
        plan.include(BOTH)
        launch = plan.launches()[0]
        plan.include(launch)
        launch[0]["a"] = 0
        self.check(plan, EXAMPLE, [BOTH, BOTH], plain_weave(EXAMPLE), zeros(EXAMPLE))


class Errors(PlanCase):
    def test_what_is_no_kernel(self):
        for thing in NO_KERNELS:
            self.fails(NoKernel, lambda kernel: Plan(kernel) and None, thing)

    def test_a_kernel_with_too_many_states(self):
        self.fails(TooMany, Plan, MANY)
        self.fails(TooMany, Plan, loops_of_1500_states((SET_X,)))
        self.fails(TooMany, Plan, four_sides(many_sets(8), many_sets(8), many_sets(4), ()))

    def test_a_pass_that_makes_too_many_states(self):
        for name in PASSES:
            plan = Plan(EXAMPLE)
            plan.include(BOTH)
            plan.improve()
            with mock.patch.object(plans, name, lambda kernel: MANY):
                self.refuses(plan, TooMany, plan.apply, name)
            plan.undo()
            self.check(plan, EXAMPLE, [BOTH], plain_weave(EXAMPLE), zeros(EXAMPLE))

    def test_a_fifth_launch(self):
        plan = Plan(TURNS)
        for _ in range(4):
            plan.include([{"n": 1}])
        self.refuses(plan, Full, plan.include, [{}])
        # The launch itself is looked at first, then its lanes.
        self.refuses(plan, NoLaunch, plan.include, [])
        self.assertEqual(self.refuses(plan, TooLong, plan.include, [{}, {"n": 250}]).lane, 1)
        plan.exclude(2)
        plan.include([{}])
        self.refuses(plan, Full, plan.include, [{}])

    def test_what_is_no_launch(self):
        plan = Plan(EXAMPLE)
        for thing in NO_LAUNCHES:
            self.refuses(plan, NoLaunch, plan.include, thing)

    def test_long_lanes(self):
        plan = Plan(TURNS)
        for lane, launch in ((0, [{"n": 250}]), (2, [{}, {"n": 249}, {"n": 300}, {"n": 250}])):
            self.assertEqual(self.refuses(plan, TooLong, plan.include, launch).lane, lane)
        plan.include([{"n": 249}])

    def test_lanes_are_long_by_the_present_kernel(self):
        # The pass leaves out the rows that make the lane long.
        kernel = (("x",), (("while", ("<", "i", 200), (("set", "y", 1), ("set", "i", ("+", "i", 1)))),))
        plan = Plan(kernel)
        self.assertEqual(self.refuses(plan, TooLong, plan.include, [{}]).lane, 0)
        plan.apply("drop")
        plan.include([{}])
        plan.improve()
        self.assertEqual(plan.bounds(), (401, 401))
        plan.undo()
        plan.undo()
        plan.undo()
        self.assertEqual(self.refuses(plan, TooLong, plan.include, [{}]).lane, 0)

    def test_exclude_what_is_none(self):
        plan = Plan(EXAMPLE)
        for number in NO_NUMBERS + (0, 1):
            self.refuses(plan, NoNumber, plan.exclude, number)
        plan.include(BOTH)
        plan.include([{}])
        for number in NO_NUMBERS + (2, 3):
            self.refuses(plan, NoNumber, plan.exclude, number)
        plan.exclude(1)
        self.refuses(plan, NoNumber, plan.exclude, 1)

    def test_apply_what_is_none(self):
        plan = Plan(EXAMPLE)
        plan.include(BOTH)
        for name in NO_PASSES:
            self.refuses(plan, NoPass, plan.apply, name)

    def test_improve_without_a_launch(self):
        plan = Plan(EXAMPLE)
        self.refuses(plan, NoLaunch, plan.improve)
        plan.include(BOTH)
        plan.exclude(0)
        self.refuses(plan, NoLaunch, plan.improve)

    def test_improve_with_lanes_that_are_almost_long(self):
        plan = Plan(TURNS)
        plan.include([{"n": 249}] * 8)
        for name in PASSES:
            plan.apply(name)
            plan.improve()
            self.assertEqual(plan.bounds(), (499, 499))


class Histories(PlanCase):
    def test_drawn_histories(self):
        source = random.Random(141)
        tried = 0
        for kernel, _ in drawn_kernels(142, 60):
            try:
                plan = Plan(kernel)
            except TooMany:
                continue
            self.history(source, plan, kernel)
            tried += 1
        self.assertGreater(tried, 40)

    def history(self, source, plan, first):
        """Make drawn calls, and check what the plan tells behind each of them; the past is kept as well."""
        past = []
        now = (first, [], plain_weave(first), zeros(first))
        for _ in range(12):
            self.check(plan, *now)
            self.ends_as_first(plan, first)
            kind = source.choice(("include", "include", "exclude", "improve", "improve", "apply", "undo"))
            kernel, launches, weave, prices = now
            if kind == "undo":
                if past:
                    plan.undo()
                    now = past.pop()
                else:
                    self.refuses(plan, NoUndo, plan.undo)
            elif kind == "include":
                launch = [lane for lane in random_launch(source, 4) if slow_lane(first, lane)[1] is not None]
                if launch and len(launches) < 4:
                    plan.include(launch)
                    past.append(now)
                    now = (kernel, launches + [launch], weave, prices)
            elif kind == "exclude" and launches:
                number = source.randrange(len(launches))
                plan.exclude(number)
                past.append(now)
                now = (kernel, launches[:number] + launches[number + 1:], weave, zeros(kernel))
            elif kind == "improve" and launches:
                plan.improve()
                past.append(now)
                now = (kernel, launches, plan.weave(), plan.prices())
                self.is_true(is_weave, (kernel[1],), plan.weave())
                self.assertEqual(plan.bounds(), (fewest(kernel, launches)[0],) * 2)
            elif kind == "apply":
                name = source.choice(sorted(PASSES))
                plan.apply(name)
                past.append(now)
                other = PASSES[name](kernel)
                now = (other, launches, plain_weave(other), zeros(other))

    def ends_as_first(self, plan, first):
        """Check that each lane ends under the plan's code as it does alone with the first kernel."""
        code = plan.code()
        self.is_true(is_code, code)
        for launch in plan.launches():
            ends = [slow_lane(first, lane)[0] for lane in launch]
            self.assertEqual(run_code(plan.kernel(), code, launch)[0], ends)
            self.assertEqual(run_code(first, code, launch)[0], ends)


if __name__ == "__main__":
    unittest.main()
