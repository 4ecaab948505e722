"""The end and the trace of a lane alone."""

import random
import unittest

from samples import Case, EXAMPLE, LOOP, NO_KERNELS, NO_STARTS, SET_X, SET_Y, SEVENTEEN, SIXTEEN, loop_rows
from slow import random_kernel, random_launch, slow_lane
from sideweave import alone
from sideweave.alone import end, trace
from sideweave.errors import NoKernel, NoLaunch

ADD = ("set", "x", ("+", "x", "b"))
STEP = ("set", "i", ("+", "i", 1))
ENDLESS = (
    (("while", 1, ()),), (("while", "a", ()),), (("while", "a", (SET_X,)),), (("while", ("=", "b", 0), ()),),
    (SET_X, ("while", 1, (("while", 0, ()),))), (("while", 1, (("if", "a", (), ()),)),),
    (("if", "a", (("while", 7, ()),), ()),), (("while", "a", (("while", "a", ()),)), SET_X),
    (("if", "b", (), (("while", "a", (("if", "b", (SET_X,), ()),)),)),),
)


class LaneCase(Case):
    def check(self, kernel, registers, ends, rows):
        """Check the end and the trace of a lane."""
        self.assertEqual(self.call(end, kernel, registers), ends)
        found = self.call(trace, kernel, registers)
        self.assertEqual(found, rows)
        self.assertIs(found.__class__, list)

    def check_long(self, kernel, registers):
        self.assertIsNone(self.call(end, kernel, registers))
        self.assertIsNone(self.call(trace, kernel, registers))


class Lanes(LaneCase):
    def test_interface(self):
        self.assertEqual((end.__module__, trace.__module__), (alone.__name__,) * 2)

    def test_the_empty_body(self):
        self.check((("x", "y"), ()), {"x": 3}, {"x": 3, "y": 0}, [])

    def test_sets(self):
        body = (SET_X, ("set", "y", ("+", "x", "a")), ("set", "x", ("-", "y", 9)), ("set", "x", ("*", "x", "x")))
        self.check((("a", "x", "y"), body), {"a": 5, "x": 100}, {"a": 5, "x": 9, "y": 6}, list(body))
        self.check((("x",), (("set", "x", ("-", "x", 1)),)), {}, {"x": 65535}, [("set", "x", ("-", "x", 1))])

    def test_both_bodies_of_a_branch(self):
        self.check(EXAMPLE, {"a": 1, "b": 5}, {"x": 6}, [("test", "a"), SET_X, ADD])
        self.check(EXAMPLE, {"a": 65535, "b": 5}, {"x": 6}, [("test", "a"), SET_X, ADD])
        self.check(EXAMPLE, {"a": 0, "b": 5, "x": 2}, {"x": 7}, [("test", "a"), ADD])
        self.check(EXAMPLE, {"b": 5}, {"x": 5}, [("test", "a"), ADD])

    def test_empty_bodies_of_a_branch(self):
        for first, second in (((), ()), ((SET_X,), ()), ((), (SET_X,))):
            kernel = (("x",), (("if", "a", first, second), SET_Y))
            self.check(kernel, {"a": 1}, {"x": len(first)}, [("test", "a"), *first, SET_Y])
            self.check(kernel, {"a": 0}, {"x": len(second)}, [("test", "a"), *second, SET_Y])

    def test_a_test_is_worked_out_before_its_body(self):
        kernel = (("a", "x"), (("if", "a", (("set", "a", 0), SET_X), (("set", "a", 1), SET_Y)),))
        self.check(kernel, {"a": 2}, {"a": 0, "x": 1}, [("test", "a"), ("set", "a", 0), SET_X])
        self.check(kernel, {}, {"a": 1, "x": 0}, [("test", "a"), ("set", "a", 1), SET_Y])

    def test_loops_with_no_turn_one_and_many(self):
        test = ("test", ("<", "i", 2))
        self.check(LOOP, {"i": 2}, {"i": 2}, [test])
        self.check(LOOP, {"i": 1}, {"i": 2}, [test, STEP, test])
        self.check(LOOP, {}, {"i": 2}, [test, STEP, test, STEP, test])
        self.check((("i",), LOOP[1] + (SET_X,)), {}, {"i": 2}, [test, STEP, test, STEP, test, SET_X])
        test = ("test", ("<", "i", 40))
        self.check((("i",), loop_rows(81)), {}, {"i": 40}, [test, STEP] * 40 + [test])

    def test_nested_statements(self):
        inner = ("while", "x", (("set", "x", ("-", "x", 1)),))
        body = (("while", ("<", "i", 3), (("if", ("=", "i", 1), (("set", "x", 2), inner), ()), STEP)),)
        outer, test, less = ("test", ("<", "i", 3)), ("test", ("=", "i", 1)), ("set", "x", ("-", "x", 1))
        rows = [outer, test, STEP, outer, test, ("set", "x", 2)] + [("test", "x"), less] * 2 + [("test", "x")]
        self.check((("i", "x"), body), {}, {"i": 3, "x": 0}, rows + [STEP, outer, test, STEP, outer])

    def test_the_outputs_alone_and_each_of_them(self):
        body = (("set", "b", 7), ("set", "z", 8))
        self.check((("a", "b", "c"), body), {"a": 1, "y": 2}, {"a": 1, "b": 7, "c": 0}, list(body))
        self.check((tuple("abcdefgh"), ()), {"h": 65535}, dict.fromkeys("abcdefg", 0) | {"h": 65535}, [])
        self.check((("y",), body), {"a": 1}, {"y": 0}, list(body))

    def test_sixteen_registers(self):
        body = (("set", "a", ("+", "p", "q")),)
        self.check((("a", "p"), body), SIXTEEN, {"a": 15, "p": 15}, list(body))

    def test_more_registers_may_be_set_than_a_lane_starts_with(self):
        names = [one + other for one in "abcd" for other in "stuvwx"]
        body = tuple(("set", name, at) for at, name in enumerate(names))
        kernel = (("as", "dx", "p"), body)
        self.check(kernel, SIXTEEN, {"as": 0, "dx": 23, "p": 15}, list(body))

    def test_against_another_way(self):
        source = random.Random(11)
        for _ in range(300):
            kernel = random_kernel(source, source.randrange(25))
            for registers in random_launch(source, 3):
                ends, rows = slow_lane(kernel, registers)
                self.assertEqual(self.call(end, kernel, registers), ends)
                self.assertEqual(self.call(trace, kernel, registers), rows)

    def test_answers_belong_to_the_caller(self):
        self.assertEqual(self.stays(end, EXAMPLE, {"a": 1}), {"x": 1})
        self.assertEqual(len(self.stays(trace, EXAMPLE, {"a": 1})), 3)
        self.assertEqual(self.stays(end, (("a",), ()), {"a": 1}), {"a": 1})
        self.assertEqual(self.stays(trace, (("a",), ()), {"a": 1}), [])

    def test_registers_that_were_changed_are_read_anew(self):
        registers = {"a": 1, "b": 5}
        self.assertEqual(end(EXAMPLE, registers), {"x": 6})
        registers["a"] = 0
        self.assertEqual(end(EXAMPLE, registers), {"x": 5})
        self.assertEqual(trace(EXAMPLE, registers), [("test", "a"), ADD])
        registers["b"] = True
        self.fails(NoLaunch, end, EXAMPLE, registers)


class LongLanes(LaneCase):
    def test_499_500_and_501_rows(self):
        for rows in range(495, 508):
            body = loop_rows(rows) if rows % 2 else (SET_X,) + loop_rows(rows - 1)
            behind = loop_rows(rows) if rows % 2 else loop_rows(rows - 1) + (SET_X,)
            branch = loop_rows(rows - 2) if rows % 2 else (SET_X,) + loop_rows(rows - 3)
            for body in (body, behind, branch + (("if", "a", (SET_X,), (SET_X,)),)):
                kernel = (("x",), body)
                if rows > 500:
                    self.check_long(kernel, {})
                else:
                    self.assertEqual(len(self.call(trace, kernel, {})), rows)
                    self.assertEqual(self.call(end, kernel, {}), slow_lane(kernel, {})[0])

    def test_the_last_row_is_a_test(self):
        for rows, more in ((499, 0), (499, 1), (499, 2)):
            tests = (("if", "a", (), ()),) * more
            kernel = (("i",), loop_rows(rows) + tests)
            if rows + more > 500:
                self.check_long(kernel, {})
            else:
                self.assertEqual(len(self.call(trace, kernel, {})), rows + more)
                self.assertEqual(self.call(end, kernel, {}), {"i": 249})

    def test_a_while_that_is_left_with_row_500_or_501(self):
        for more in (0, 1):
            kernel = (("i",), (SET_X,) * more + loop_rows(497) + (("while", "a", (SET_X,)), ("while", 0, ())))
            self.assertEqual(len(self.call(trace, kernel, {})), 499 + more)
        self.check_long((("i",), (SET_X,) * 2 + loop_rows(497) + (("while", "a", (SET_X,)), ("while", 0, ()))), {})

    def test_the_same_kernel_for_a_longer_and_a_shorter_lane(self):
        kernel = (("i",), (("while", ("<", "i", "n"), (STEP,)),))
        for turns in (0, 1, 248, 249):
            self.assertEqual(self.call(end, kernel, {"n": turns}), {"i": turns})
            self.assertEqual(len(self.call(trace, kernel, {"n": turns})), 2 * turns + 1)
        for turns in (250, 251, 65535):
            self.check_long(kernel, {"n": turns})

    def test_endless_loops(self):
        for body in ENDLESS:
            self.check_long((("x",), body), {"a": 1})

    def test_endless_loops_that_are_not_entered(self):
        kernel = (("x",), (("while", "a", ()), ("if", "a", (("while", 1, ()),), ()), SET_X))
        self.check(kernel, {}, {"x": 1}, [("test", "a"), ("test", "a"), SET_X])

    def test_long_lanes_with_many_outputs(self):
        self.check_long((tuple("abcdefgh"), (SET_X, ("while", 1, ()))), SIXTEEN)


class Errors(Case):
    def test_what_is_no_kernel(self):
        for thing in NO_KERNELS:
            self.fails(NoKernel, end, thing, {"a": 1})
            self.fails(NoKernel, trace, thing, {})

    def test_what_are_no_registers(self):
        for thing in NO_STARTS:
            for kernel in (EXAMPLE, LOOP, (("x",), ()), (("x",), (("while", 1, ()),))):
                self.fails(NoLaunch, end, kernel, thing)
                self.fails(NoLaunch, trace, kernel, thing)

    def test_seventeen_registers(self):
        self.fails(NoLaunch, end, EXAMPLE, SEVENTEEN)
        self.fails(NoLaunch, trace, EXAMPLE, SEVENTEEN)

    def test_the_earlier_argument_first(self):
        for thing in NO_KERNELS:
            for registers in NO_STARTS:
                self.fails(NoKernel, end, thing, registers)
                self.fails(NoKernel, trace, thing, registers)


if __name__ == "__main__":
    unittest.main()
