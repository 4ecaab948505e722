"""Machines: codes that run issue by issue."""

import copy
import random
import unittest

from samples import EXAMPLE, LOOP, NO_KERNELS, NO_LAUNCHES, RunCase, SET_X, STRANGE, WOVEN, holders
from slow import random_kernel, random_launch, random_weave, slow_code, slow_lane
from sideweave import machines
from sideweave.codes import code_of, run_code
from sideweave.errors import NoCode, NoKernel, NoLaunch, NoNumber, TooLong
from sideweave.machines import Machine
from sideweave.weaves import plain_weave
from test_codes import FOUR, NOTHING, SPREAD, TURNS, idle, random_code, wrong_instructions

BOTH = [{"a": 1, "b": 5}, {"b": 5}]
ADD = ("set", "x", ("+", "x", "b"))
NO_NUMBERS = (None, True, False, -1, "", "0", "a", (), (0,), [], [0], {}, {0: 0}, -10 ** 19, 10 ** 19, 65536)


def shown(machine, lanes):
    """Return all that a machine tells of where it is."""
    return (machine.masks(), [machine.registers(lane) for lane in range(lanes)], machine.issues(), machine.ends())


class MachineCase(RunCase):
    def machine(self, *arguments):
        """Return a new machine; fail if an argument was changed."""
        before = copy.deepcopy(arguments)
        try:
            return Machine(*arguments)
        finally:
            self.assertEqual(repr(before), repr(arguments))

    def same_place(self, machine, lanes, place):
        """Fail unless the machine tells just this, each time in new lists and dicts."""
        first, second = shown(machine, lanes), shown(machine, lanes)
        self.assertEqual(first, place)
        old, new = [[id(thing) for thing in holders(found)] for found in (first, second)]
        self.assertEqual(set(old) & set(new), set())
        self.assertEqual(len(new), len(set(new)))

    def runs(self, kernel, code, launch):
        """Check a machine, step by step, against run_code and another way; return its issues."""
        ends, issues = run_code(kernel, code, launch)
        self.assertEqual((ends, issues), slow_code(kernel[0], code, launch))
        machine = self.machine(kernel, code, launch)
        lanes = len(launch)
        self.same_place(machine, lanes, ({0: tuple(range(lanes))}, launch, [],
                                         [{name: lane.get(name, 0) for name in kernel[0]} for lane in launch]))
        for many, issue in enumerate(issues):
            self.assertEqual(machine.step(), issue)
            self.assertEqual(machine.issues(), issues[:many + 1])
            masks = machine.masks()
            self.assertEqual(sorted(lane for mask in masks for lane in masks[mask]), list(range(lanes)))
            self.assertEqual([mask for mask in masks if list(masks[mask]) != sorted(masks[mask])], [])
            self.assertEqual({part.__class__ for part in masks.values()}, {tuple})
        for _ in range(3):
            self.assertIsNone(machine.step())
            self.assertEqual((machine.ends(), machine.issues()), (ends, issues))
        return issues

    def step_too_long(self, machine, lanes):
        """Check that a step raises TooLong(None), again and again, and that nothing changes."""
        before = shown(machine, lanes)
        for _ in range(2):
            with self.assertRaises(TooLong) as caught:
                machine.step()
            self.assertIsNone(caught.exception.lane)
            self.same_place(machine, lanes, before)


class Steps(MachineCase):
    def test_interface(self):
        self.assertEqual(Machine.__module__, machines.__name__)
        names = ("step", "masks", "registers", "issues", "ends", "mark", "back")
        self.assertEqual([name for name in names if name not in vars(Machine)], [])

    def test_the_example(self):
        machine = self.machine(EXAMPLE, code_of(EXAMPLE, WOVEN), BOTH)
        self.same_place(machine, 2, ({0: (0, 1)}, [{"a": 1, "b": 5}, {"b": 5}], [], [{"x": 0}, {"x": 0}]))
        issues = [(("test", "a"), (0, 1)), (SET_X, (0,)), (ADD, (0, 1))]
        self.assertEqual(machine.step(), issues[0])
        self.same_place(machine, 2, ({0: (0,), 1: (1,)}, BOTH, issues[:1], [{"x": 0}, {"x": 0}]))
        self.assertEqual(machine.step(), issues[1])
        self.same_place(machine, 2, ({0: (0,), 1: (1,)}, [{"a": 1, "b": 5, "x": 1}, {"b": 5}], issues[:2],
                                     [{"x": 1}, {"x": 0}]))
        self.assertEqual(machine.step(), issues[2])
        there = [{"a": 1, "b": 5, "x": 6}, {"b": 5, "x": 5}]
        self.same_place(machine, 2, ({0: (0,), 1: (1,)}, there, issues, [{"x": 6}, {"x": 5}]))
        # Behind the last issue there is the join still.
        self.assertIsNone(machine.step())
        self.same_place(machine, 2, ({0: (0, 1)}, there, issues, [{"x": 6}, {"x": 5}]))
        self.assertIsNone(machine.step())
        self.same_place(machine, 2, ({0: (0, 1)}, there, issues, [{"x": 6}, {"x": 5}]))

    def test_a_code_that_ends_without_an_issue(self):
        for code in ((), (("join", (0,), 7),), (("set", (1,), "x", 1), ("back", 2)), (("skip", (3,), 1),)):
            self.assertEqual(self.runs(EXAMPLE, code, [{"a": 1}, {}]), [])
        machine = self.machine(EXAMPLE, (("join", (0,), 7),), [{}, {}])
        self.assertEqual(machine.masks(), {0: (0, 1)})
        self.assertIsNone(machine.step())
        self.assertEqual(machine.masks(), {7: (0, 1)})

    def test_a_step_stops_right_behind_the_issue(self):
        machine = self.machine(NOTHING, (("set", (0,), "x", 1), ("join", (0,), 5), ("set", (5,), "x", 2)), [{}])
        machine.step()
        self.assertEqual(machine.masks(), {0: (0,)})
        machine.step()
        self.assertEqual(machine.masks(), {5: (0,)})

    def test_masks(self):
        machine = self.machine(NOTHING, SPREAD + (("join", (2, 4), 99),), FOUR)
        masks = [machine.masks()]
        while machine.step() is not None:
            masks.append(machine.masks())
        masks.append(machine.masks())
        self.assertEqual(masks, [{0: (0, 1, 2, 3)}, {1: (0, 1), 2: (2, 3)}, {1: (0, 1), 3: (2,), 4: (3,)},
                                 {1: (0,), 2: (1,), 3: (2,), 4: (3,)}, {1: (0,), 3: (2,), 99: (1, 3)}])

    def test_registers(self):
        code = (("set", (0,), "y", ("+", "a", 1)), ("set", (0,), "a", 0))
        machine = self.machine(NOTHING, code, [{"a": 4}, {"b": 1}])
        self.assertEqual([machine.registers(0), machine.registers(1)], [{"a": 4}, {"b": 1}])
        machine.step()
        self.assertEqual([machine.registers(0), machine.registers(1)], [{"a": 4, "y": 5}, {"b": 1, "y": 1}])
        machine.step()
        self.assertEqual([machine.registers(0), machine.registers(1)], [{"a": 0, "y": 5}, {"a": 0, "b": 1, "y": 1}])

    def test_registers_of_what_is_no_lane(self):
        machine = self.machine(NOTHING, (), [{}, {}])
        for lane in NO_NUMBERS + (2, 3, 8):
            self.fails(NoNumber, machine.registers, lane)
        self.same_place(machine, 2, ({0: (0, 1)}, [{}, {}], [], [{"x": 0}] * 2))

    def test_random_codes(self):
        source = random.Random(131)
        issued = ended = 0
        for _ in range(300):
            code = random_code(source, source.randrange(1, 20))
            launch = [{name: source.randrange(3) for name in "abx"} for _ in range(source.randrange(1, 9))]
            kernel = (("b", "x"), ())
            if slow_code(kernel[0], code, launch) is None:
                machine = self.machine(kernel, code, launch)
                with self.assertRaises(TooLong):
                    while machine.step() is not None:
                        pass
                self.step_too_long(machine, len(launch))
                ended += 1
            else:
                issued += len(self.runs(kernel, code, launch))
        self.assertGreater(issued, 300)
        self.assertGreater(ended, 20)

    def test_codes_of_weaves(self):
        source = random.Random(132)
        for _ in range(60):
            kernel, launch = random_kernel(source, source.randrange(1, 25)), random_launch(source)
            if None not in [slow_lane(kernel, lane)[1] for lane in launch]:
                code = code_of(kernel, random_weave(source, (kernel[1],)))
                ends, issues = run_code(kernel, code, launch)
                self.runs(kernel, code, launch)
                self.check_lanes(kernel, launch, ends, issues)

    def test_several_machines_side_by_side(self):
        launches = [[{"n": 2}], [{"n": 1}, {}], [{"n": 3}, {"n": 1}]]
        code = code_of(TURNS, plain_weave(TURNS))
        side_by_side = [self.machine(TURNS, code, launch) for launch in launches]
        for many in range(10):
            for machine, launch in zip(side_by_side, launches):
                issues = run_code(TURNS, code, launch)[1]
                self.assertEqual(machine.step(), issues[many] if many < len(issues) else None)
        for machine, launch in zip(side_by_side, launches):
            self.assertEqual((machine.ends(), machine.issues()), run_code(TURNS, code, launch))


class Changes(MachineCase):
    def test_later_changes_of_the_launch_mean_nothing(self):
        launch = [{"a": 1, "b": 5}, {"b": 5}]
        machine = self.machine(EXAMPLE, code_of(EXAMPLE, WOVEN), launch)
        launch[0]["a"] = 0
        launch[1]["x"] = 9
        machine.step()
        launch[1].clear()
        launch.append({})
        while machine.step() is not None:
            del launch[:]
        self.assertEqual((machine.ends(), machine.issues()), run_code(EXAMPLE, code_of(EXAMPLE, WOVEN), BOTH))

    def test_the_same_dict_for_two_lanes(self):
        lane = {"l": 1}
        machine = self.machine(NOTHING, (("set", (0,), "x", 1),), [lane, lane])
        machine.step()
        self.assertEqual(lane, {"l": 1})
        self.assertIsNot(machine.registers(0), machine.registers(1))

    def test_later_changes_of_what_was_returned_mean_nothing(self):
        machine = self.machine(EXAMPLE, code_of(EXAMPLE, WOVEN), BOTH)
        number = machine.mark()
        while True:
            place = shown(machine, 2)
            for thing in holders(list(shown(machine, 2))):
                thing.clear()
            self.same_place(machine, 2, place)
            if machine.step() is None:
                break
        self.assertEqual((machine.ends(), machine.issues()), run_code(EXAMPLE, code_of(EXAMPLE, WOVEN), BOTH))
        machine.back(number)
        self.same_place(machine, 2, ({0: (0, 1)}, BOTH, [], [{"x": 0}] * 2))


class Marks(MachineCase):
    def test_the_numbers_of_marks(self):
        machine = self.machine(TURNS, code_of(TURNS, plain_weave(TURNS)), [{"n": 3}])
        self.assertEqual([machine.mark(), machine.mark(), machine.step() and machine.mark()], [0, 1, 2])
        self.assertIsNone(machine.back(1))
        self.assertEqual(machine.mark(), 2)
        machine.back(0)
        self.assertEqual([machine.mark(), machine.mark()], [1, 2])

    def test_ways_back_to_each_mark(self):
        source = random.Random(133)
        code = code_of(TURNS, plain_weave(TURNS))
        machine = self.machine(TURNS, code, [{"n": 3}, {"n": 1}])
        marks = []
        for _ in range(200):
            kind = source.random()
            if kind < 0.5:
                machine.step()
            elif kind < 0.75:
                marks.append(shown(machine, 2))
                self.assertEqual(machine.mark(), len(marks) - 1)
            elif marks:
                number = source.randrange(len(marks))
                self.assertIsNone(machine.back(number))
                del marks[number + 1:]
                self.same_place(machine, 2, marks[number])
                self.fails(NoNumber, machine.back, len(marks))
        self.assertGreater(len(marks), 0)

    def test_steps_after_a_way_back(self):
        code = code_of(EXAMPLE, WOVEN)
        ends, issues = run_code(EXAMPLE, code, BOTH)
        machine = self.machine(EXAMPLE, code, BOTH)
        places = []
        for many in range(4):
            places.append(shown(machine, 2))
            self.assertEqual(machine.mark(), many)
            machine.step()
        for number in (3, 2, 2, 1, 0, 0):
            machine.back(number)
            self.same_place(machine, 2, places[number])
            for issue in issues[number:] + [None, None]:
                self.assertEqual(machine.step(), issue)
            self.assertEqual((machine.ends(), machine.issues()), (ends, issues))
            machine.back(number)
            self.same_place(machine, 2, places[number])

    def test_marks_that_there_are_not(self):
        machine = self.machine(TURNS, code_of(TURNS, plain_weave(TURNS)), [{"n": 3}])
        for number in NO_NUMBERS + (0, 1):
            self.fails(NoNumber, machine.back, number)
        machine.step()
        machine.mark()
        machine.step()
        machine.mark()
        place = shown(machine, 1)
        for number in NO_NUMBERS + (2, 3):
            self.fails(NoNumber, machine.back, number)
            self.same_place(machine, 1, place)
        machine.back(0)
        self.assertEqual(len(machine.issues()), 1)
        self.fails(NoNumber, machine.back, 1)
        machine.back(0)

    def test_a_mark_is_not_changed_by_what_comes_behind_it(self):
        machine = self.machine(TURNS, code_of(TURNS, plain_weave(TURNS)), [{"n": 2}])
        number = machine.mark()
        place = shown(machine, 1)
        for _ in range(3):
            while machine.step() is not None:
                pass
            self.assertEqual(machine.ends(), [{"i": 2}])
            machine.back(number)
            self.same_place(machine, 1, place)


class Bounds(MachineCase):
    def test_a_code_that_never_issues_again(self):
        for code in ((("back", 0),), (("skip", (1,), 0),), (("set", (1,), "x", 1), ("back", 0))):
            self.step_too_long(self.machine(NOTHING, code, [{}, {}]), 2)
        machine = self.machine(NOTHING, (("set", (0,), "x", 1), ("join", (0,), 1), ("back", 1)), [{}])
        self.assertEqual(machine.step(), (SET_X, (0,)))
        number = machine.mark()
        self.step_too_long(machine, 1)
        self.assertEqual(machine.masks(), {0: (0,)})
        machine.back(number)
        self.step_too_long(machine, 1)

    def test_a_code_that_issues_for_ever(self):
        machine = self.machine(NOTHING, (("set", (0,), "x", ("+", "x", 1)), ("back", 0)), [{}, {"x": 5}])
        marks = {}
        for many in range(4000):
            if many in (0, 1, 2000, 3999):
                marks[many] = machine.mark()
            self.assertEqual(machine.step()[1], (0, 1))
        self.step_too_long(machine, 2)
        self.assertEqual((machine.ends(), len(machine.issues())), ([{"x": 4000}, {"x": 4005}], 4000))
        for many in reversed(marks):
            machine.back(marks[many])
            self.assertEqual((machine.ends()[0]["x"], len(machine.issues())), (many, many))
            machine.step()
            self.assertEqual((machine.ends()[0]["x"], len(machine.issues())), (many + 1, many + 1))
            if many == 3999:
                self.step_too_long(machine, 2)

    def test_a_code_that_ends_behind_4000_issues(self):
        step, test = ("set", (0,), "i", ("+", "i", 1)), ("test", ((0, 0, 1),), ("<", "i", 2000))
        code = (step, test, ("skip", (0,), 4), ("back", 0))
        machine = self.machine(NOTHING, code, [{}])
        for _ in range(4000):
            self.assertIsNotNone(machine.step())
        self.assertIsNone(machine.step())
        self.assertEqual(len(machine.issues()), 4000)
        machine = self.machine(NOTHING, code + (("set", (1,), "x", 1),), [{}])
        for _ in range(4000):
            machine.step()
        self.step_too_long(machine, 1)

    def test_just_2000_instructions_without_an_issue_and_more(self):
        machine = self.machine(NOTHING, idle(0, 0, 40, 50), [{}])
        self.assertIsNone(machine.step())
        self.assertIsNone(machine.step())
        self.step_too_long(self.machine(NOTHING, idle(0, 0, 40, 50) + (("join", (99,), 1),), [{}]), 1)
        code = (("set", (0,), "x", 1),) + idle(1, 0, 40, 50) + (("set", (40,), "x", 2),) + idle(52, 40, 40, 50)
        machine = self.machine(NOTHING, code, [{}, {}])
        self.assertEqual([machine.step(), machine.step(), machine.step()],
                         [(SET_X, (0, 1)), (("set", "x", 2), (0, 1)), None])
        machine = self.machine(NOTHING, code + (("join", (99,), 1),), [{}, {}])
        machine.step()
        machine.step()
        self.step_too_long(machine, 2)


class Errors(MachineCase):
    def test_what_is_wrong(self):
        for thing in NO_KERNELS:
            self.fails(NoKernel, self.machine, thing, (), [{}])
        for thing in [(thing,) for thing in wrong_instructions()[::3]] + [thing for thing in STRANGE if thing != ()]:
            self.fails(NoCode, self.machine, NOTHING, thing, [{}])
        for thing in NO_LAUNCHES:
            self.fails(NoLaunch, self.machine, NOTHING, (), thing)

    def test_long_lanes(self):
        self.too_long(0, Machine, TURNS, (), [{"n": 250}])
        self.too_long(2, Machine, TURNS, (("back", 0),), [{}, {"n": 249}, {"n": 300}, {"n": 250}])
        self.machine(TURNS, (), [{"n": 249}])

    def test_the_order_of_the_errors(self):
        self.fails(NoKernel, self.machine, None, None, None)
        self.fails(NoCode, self.machine, TURNS, None, None)
        self.fails(NoLaunch, self.machine, TURNS, (), [{"n": 300}, {"n": True}])
        self.fails(NoCode, self.machine, TURNS, (("back", 2),), [{"n": 300}])

    def test_the_kernel_gives_the_outputs_alone(self):
        machine = self.machine(LOOP, (("set", (0,), "i", 7), ("set", (0,), "y", 8)), [{}])
        while machine.step() is not None:
            pass
        self.assertEqual(machine.ends(), [{"i": 7}])


if __name__ == "__main__":
    unittest.main()
