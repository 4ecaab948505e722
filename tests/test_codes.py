"""Machine code, the code of a weave, and what a code issues."""

import random
import unittest

from samples import (EXAMPLE, LOOP, NO_KERNELS, NO_LAUNCHES, NO_WEAVES, RunCase, SET_X, SET_Y, STRANGE, WOVEN,
                     nested_term)
from slow import random_kernel, random_launch, random_weave, slow_code, slow_lane
from sideweave import codes
from sideweave.codes import code_of, is_code, run_code
from sideweave.errors import NoCode, NoKernel, NoLaunch, NoWeave
from sideweave.weaves import plain_weave
from sideweave.woven import run_weave

ADD = ("set", "x", ("+", "x", 1))
NOTHING = (("x",), ())
MANY = (("a", "b", "x", "y"), ())
# The lanes 0 to 3 in the masks 1 to 4.
SPREAD = (("test", ((0, 2, 1),), ("<", 1, "l")), ("test", ((1, 2, 1), (2, 4, 3)), ("=", ("*", "l", ("-", "l", 2)), 3)),
          ("test", ((1, 2, 1),), "l"))
FOUR = [{"l": lane} for lane in range(4)]
TURNS = (("i",), (("while", ("<", "i", "n"), (("set", "i", ("+", "i", 1)),)),))
NO_MASKS = (
    (), (0, 0), (1, 0), (0, 2, 1), (0, 1, 1), (100,), (0, 100), (-1,), (-1, 0), (True,), (False,), (False, 1),
    (0, True), [0], [], None, 0, 1, True, "0", ("0",), (None,), ((0,),), {}, {0: 0}, (65536,), (10 ** 19,),
    tuple(range(101)),
)
NO_MASK = (100, 101, -1, True, False, None, "0", "", (), (0,), [0], {}, 65536, 10 ** 19, -10 ** 19)
NO_MOVES = (
    (), [], None, 0, True, (0, 1, 2), ((0, 1),), ((0, 1, 2, 3),), ([0, 1, 2],), [(0, 1, 2)], ((),), (None,), ("abc",),
    ((0, 1, 2), (0, 1, 2)), ((0, 1, 2), (0, 3, 4)), ((1, 2, 3), (0, 2, 3)), ((0, 1, 2), (2, 1, 1), (1, 1, 1)),
    ((0, 1, 2), None), (((0,), 1, 2),), ((0, 1, 2), (1, 1, 2), (1, 1, 2)), {(0, 1, 2): 1}, ((0, 1, 2), [1, 1, 2]),
)
NO_TERMS = (True, False, None, -1, 65536, "A", "", (), ("+", 1), ["+", 1, 2], ("+", 1, True), nested_term(5), [1])


def moves_with(mask):
    """Return moves that have this value in the place of a mask, once in each."""
    return [((mask, 1, 2),), ((0, mask, 2),), ((0, 1, mask),), ((0, 1, 2), (3, 4, mask)), ((0, 1, 2), (3, mask, 4))]


def wrong_instructions():
    """Return what is no instruction of a code with three instructions."""
    wrong = [("set", masks, "x", 1) for masks in NO_MASKS] + [("join", masks, 1) for masks in NO_MASKS]
    wrong += [("skip", masks, 1) for masks in NO_MASKS] + [("test", moves, "a") for moves in NO_MOVES]
    wrong += [("test", moves, "a") for mask in NO_MASK for moves in moves_with(mask)]
    wrong += [("join", (0,), mask) for mask in NO_MASK]
    wrong += [("skip", (0,), place) for place in NO_MASK + (4, 5, 99)]
    wrong += [("back", place) for place in NO_MASK + (4, 5, 99)]
    wrong += [("set", (0,), "x", term) for term in NO_TERMS] + [("test", ((0, 1, 2),), term) for term in NO_TERMS]
    wrong += [("set", (0,), name, 1) for name in ("X", "", "abcdefghi", 1, None, True, ("x",), ["x"], "a1")]
    wrong += [("set", (0,), "x"), ("set", (0,), "x", 1, 1), ("set",), ("test", ((0, 1, 2),)), ("test",), ("join",),
              ("test", ((0, 1, 2),), "a", 1), ("join", (0,)), ("join", (0,), 1, 1), ("skip", (0,)), ("skip",),
              ("skip", (0,), 1, 1), ("back",), ("back", 1, 1), ("back", (0,), 1), ("skip", 1), ("halt",), ("halt", 1),
              ("set", "x", 1), ("jump", 1), ("Set", (0,), "x", 1), (None, (0,), "x", 1), (["set"], (0,), "x", 1),
              (("set",), (0,), "x", 1), ("", 1), (0, 1), ("split", (0,), ()), ["set", (0,), "x", 1], ["back", 1]]
    return wrong + [thing for thing in STRANGE]


class CodeCase(RunCase):
    def check(self, kernel, code, launch, ends, issues):
        """Check what a code issues, and the lanes' ends."""
        found = self.call(run_code, kernel, code, launch)
        self.assertIs(found.__class__, tuple)
        self.assertEqual(found, (ends, issues))
        self.assertEqual(found, slow_code(kernel[0], code, launch))

    def issues(self, code, launch, issues):
        """Check what a code issues."""
        self.check(NOTHING, code, launch, self.call(run_code, NOTHING, code, launch)[0], issues)


def idle(start, first, passes, length):
    """Return instructions that pass, so often, so many instructions without an issue.

    They stand from this place on; all lanes go from the mask `first` to the one that is `passes` higher.
    """
    joins = tuple(("join", (first + at,), first + at + 1) for at in reversed(range(passes)))
    rest = (("set", (99,), "x", 1), ("test", ((98, 0, 0), (99, 0, 0)), 1), ("join", (98, 99), 0),
            ("skip", (99,), start + 4), ("back", start + 5))
    rest += (("join", (99,), 0),) * (length - passes - 6)
    return rest + joins + (("skip", (first + passes,), start),)


class IsCode(CodeCase):
    def test_interface(self):
        self.assertEqual({function.__module__ for function in (is_code, code_of, run_code)}, {codes.__name__})

    def test_codes(self):
        self.is_true(is_code, ())
        for one in (("set", (0,), "x", 1), ("set", (0, 1, 99), "abcdefgh", nested_term(4)), ("test", ((0, 1, 2),), "a"),
                    ("test", ((0, 0, 0), (1, 99, 0), (99, 1, 1)), 0), ("join", (0,), 0), ("join", (0, 5, 99), 99),
                    ("join", tuple(range(100)), 1), ("set", tuple(range(100)), "x", 1), ("skip", (0,), 0),
                    ("skip", (1, 2), 1), ("back", 0), ("back", 1), ("set", (0,), "set", "end")):
            self.is_true(is_code, (one,))
            self.is_true(is_code, (one, one, one))

    def test_wrong_instructions(self):
        right = ("set", (0,), "x", 1)
        for thing in wrong_instructions():
            for code in ((thing, right, right), (right, thing, right), (right, right, thing)):
                self.is_false(is_code, code)

    def test_other_values(self):
        for thing in STRANGE + ([("back", 0)], [], ("back", 0), {0: ("back", 0)}, (("back", 0), None)):
            if thing != ():
                self.is_false(is_code, thing)

    def test_masks_99_and_100(self):
        for make in (lambda mask: ("set", (0, mask), "x", 1), lambda mask: ("join", (mask,), 0),
                     lambda mask: ("join", (0,), mask), lambda mask: ("skip", (mask,), 0),
                     lambda mask: ("test", ((mask, 0, 0),), 1), lambda mask: ("test", ((0, mask, 0),), 1),
                     lambda mask: ("test", ((0, 0, mask),), 1)):
            self.is_true(is_code, (make(99),))
            self.is_false(is_code, (make(100),))

    def test_places(self):
        for many in (1, 2, 3, 4, 400):
            for place in (0, 1, many - 1, many):
                self.is_true(is_code, (("back", place),) * many)
                self.is_true(is_code, (("skip", (0,), place),) * many)
            for place in (many + 1, many + 2, 401, -1):
                self.is_false(is_code, (("back", place),) * many)
                self.is_false(is_code, (("skip", (0,), place),) * many)

    def test_400_and_401_instructions(self):
        one = ("set", (0,), "x", 1)
        self.is_true(is_code, (one,) * 400)
        self.is_false(is_code, (one,) * 401)
        self.assertEqual(len(self.call(run_code, NOTHING, (one,) * 400, [{}])[1]), 400)
        self.fails(NoCode, run_code, NOTHING, (one,) * 401, [{}])


class RunCode(CodeCase):
    def test_the_example(self):
        code = (("test", ((0, 1, 2),), "a"), ("set", (1,), "x", 7), ("join", (1,), 2), ("set", (2,)) + ADD[1:])
        issues = [(("test", "a"), (0, 1)), (("set", "x", 7), (0,)), (ADD, (0, 1))]
        self.check(EXAMPLE, code, [{"a": 3}, {}], [{"x": 8}, {"x": 1}], issues)

    def test_the_empty_code(self):
        self.check(EXAMPLE, (), [{"a": 3, "x": 4}, {}], [{"x": 4}, {"x": 0}], [])

    def test_the_outputs_are_those_of_the_kernel(self):
        code = (("set", (0,), "x", 5), ("set", (0,), "z", 6))
        self.check((("a", "x", "y"), ()), code, [{"a": 1}], [{"a": 1, "x": 5, "y": 0}],
                   [(("set", "x", 5), (0,)), (("set", "z", 6), (0,))])

    def test_all_lanes_begin_in_mask_0(self):
        everywhere = ("set", tuple(range(1, 100)), "x", 9)
        self.check(NOTHING, (everywhere, ("set", (0,), "x", 2), everywhere), [{}] * 8, [{"x": 2}] * 8,
                   [(("set", "x", 2), tuple(range(8)))])

    def test_sets_for_several_masks(self):
        for masks, lanes in (((1,), (0,)), ((4,), (3,)), ((1, 4), (0, 3)), ((2, 3), (1, 2)), ((0, 2, 50), (1,)),
                             ((1, 2, 3, 4), (0, 1, 2, 3)), ((0, 5), ())):
            code = SPREAD + (("set", masks, "x", ("+", "l", 5)),)
            found = self.call(run_code, NOTHING, code, FOUR)
            self.assertEqual(found[1][3:], [(("set", "x", ("+", "l", 5)), lanes)] if lanes else [])
            self.assertEqual(found[0], [{"x": lane + 5 if lane in lanes else 0} for lane in range(4)])
            self.assertEqual(found, slow_code(("x",), code, FOUR))

    def test_a_test_issues_for_the_lanes_of_all_its_masks(self):
        for moves, lanes in ((((1, 1, 1),), (0,)), (((2, 2, 2), (4, 4, 4)), (1, 3)), (((0, 1, 1), (6, 1, 1)), ()),
                             (((1, 0, 0), (2, 0, 0), (3, 0, 0), (4, 0, 0)), (0, 1, 2, 3))):
            issues = self.call(run_code, NOTHING, SPREAD + (("test", moves, "b"),), FOUR)[1]
            self.assertEqual(issues[3:], [(("test", "b"), lanes)] if lanes else [])

    def test_where_the_lanes_go(self):
        # Any value but 0 leads to yes.
        for number, mask in ((0, 2), (1, 1), (2, 1), (65535, 1)):
            code = (("test", ((0, 1, 2),), "a"), ("set", (1,), "x", 1), ("set", (2,), "x", 2), ("set", (0,), "x", 3))
            issues = [(("test", "a"), (0,)), (("set", "x", mask), (0,))]
            self.check(NOTHING, code, [{"a": number}], [{"x": mask}], issues)

    def test_masks_that_meet(self):
        code = SPREAD + (("test", ((1, 5, 6), (2, 6, 5), (3, 5, 5)), "a"), ("set", (5,), "x", 1), ("set", (6,), "y", 1),
                         ("set", (1, 2, 3), "x", 9), ("set", (4,), "x", 4))
        launch = [{"l": 0, "a": 1}, {"l": 1, "a": 1}, {"l": 2}, {"l": 3}]
        self.assertEqual(self.call(run_code, MANY, code, launch)[1][3:],
                         [(("test", "a"), (0, 1, 2)), (("set", "x", 1), (0, 2)), (("set", "y", 1), (1,)),
                          (("set", "x", 4), (3,))])

    def test_moves_between_masks_of_one_test_are_all_at_once(self):
        # The lanes of the masks 1 to 4 change places; none is moved twice.
        code = SPREAD + (("test", ((1, 2, 2), (2, 3, 3), (3, 4, 4), (4, 1, 1)), 0), ("set", (1,), "x", 1),
                         ("set", (2,), "x", 2), ("set", (3,), "x", 3), ("set", (4,), "x", 4))
        self.assertEqual(self.call(run_code, NOTHING, code, FOUR)[0], [{"x": 2}, {"x": 3}, {"x": 4}, {"x": 1}])
        code = SPREAD + (("test", ((1, 4, 1), (4, 1, 4)), "a"), ("set", (1,), "x", 1), ("set", (4,), "x", 4))
        launch = [{"l": 0, "a": 1}, {"l": 1, "a": 1}, {"l": 2}, {"l": 3, "a": 5}]
        self.assertEqual(self.call(run_code, NOTHING, code, launch)[0], [{"x": 4}, {"x": 0}, {"x": 0}, {"x": 1}])
        self.assertEqual(self.call(run_code, NOTHING, code, FOUR)[0], [{"x": 1}, {"x": 0}, {"x": 0}, {"x": 4}])

    def test_a_set_reads_what_stood_before(self):
        code = (("set", (0,), "x", ("+", "x", "a")), ("set", (0,), "a", "x"), ("set", (0,), "x", ("*", "a", "x")))
        self.assertEqual(self.call(run_code, NOTHING, code, [{"x": 2, "a": 1}, {"a": 5}])[0], [{"x": 9}, {"x": 25}])

    def test_joins(self):
        for masks, into, lanes in (((1,), 2, (0, 1)), ((1, 3), 4, (0, 2, 3)), ((1, 2), 2, (0, 1)), ((1, 2), 1, (0, 1)),
                                   ((1, 2, 3, 4), 0, (0, 1, 2, 3)), ((5, 6), 7, ()), ((2,), 2, (1,)),
                                   ((0, 4, 9), 99, (3,))):
            code = SPREAD + (("join", masks, into), ("set", (into,), "x", 1))
            left = tuple(mask for mask in masks if mask != into)
            issues = self.call(run_code, NOTHING, code + ((("set", left, "x", 2),) if left else ()), FOUR)[1]
            self.assertEqual(issues[3:], [(SET_X, lanes)] if lanes else [])

    def test_skips(self):
        # The one that is skipped sets x; a skip is not taken as soon as one of its masks has lanes.
        for masks, taken in (((0,), True), ((5, 6, 7), True), ((1,), False), ((0, 4), False), ((2, 3), False),
                             ((0, 99), True)):
            code = SPREAD + (("skip", masks, 5), ("set", (1, 2, 3, 4), "x", 1), ("set", (3,), "y", 2))
            issues = self.call(run_code, NOTHING, code, FOUR)[1]
            self.assertEqual(issues[3:], [(SET_Y, (2,))] if taken else [(SET_X, (0, 1, 2, 3)), (SET_Y, (2,))])

    def test_skip_and_back_lead_forward_back_and_to_themselves(self):
        self.issues((("back", 2), ("set", (0,), "x", 1), ("set", (0,), "y", 2)), [{}], [(SET_Y, (0,))])
        self.issues((("skip", (1,), 2), ("set", (0,), "x", 1), ("set", (0,), "y", 2)), [{}], [(SET_Y, (0,))])
        self.issues((("back", 1), ("set", (0,), "x", 1)), [{}], [(SET_X, (0,))])
        back = (("set", (0,)) + ADD[1:], ("test", ((0, 0, 1),), ("<", "x", 3)), ("skip", (0,), 4), ("back", 0))
        self.assertEqual(self.call(run_code, NOTHING, back, [{}, {"x": 1}])[0], [{"x": 3}, {"x": 3}])
        skip = (("set", (0,)) + ADD[1:], ("test", ((0, 0, 1),), ("<", "x", 3)), ("skip", (1,), 0))
        self.assertEqual(self.call(run_code, NOTHING, skip, [{}, {"x": 1}])[0], [{"x": 2}, {"x": 3}])
        self.too_long(None, run_code, NOTHING, (("back", 0),), [{}])
        self.too_long(None, run_code, NOTHING, (("skip", (1,), 0),), [{}])
        self.issues((("skip", (0,), 0),), [{}], [])

    def test_a_place_that_is_the_number_of_instructions(self):
        self.issues((("back", 2), ("set", (0,), "x", 1)), [{}], [])
        self.issues((("back", 1),), [{}], [])
        self.issues((("skip", (1,), 2), ("set", (0,), "x", 1)), [{}], [])
        self.issues((("skip", (0,), 2), ("set", (0,), "x", 1)), [{}], [(SET_X, (0,))])
        self.issues((("set", (0,), "y", 2), ("skip", (5,), 3), ("set", (0,), "x", 1)), [{}], [(SET_Y, (0,))])

    def test_against_another_way(self):
        source = random.Random(61)
        done = issued = 0
        for _ in range(800):
            code = random_code(source, source.randrange(1, 20))
            launch = [{name: source.randrange(3) for name in "abx"} for _ in range(source.randrange(1, 9))]
            answer = slow_code(("b", "x"), code, launch)
            if answer is None:
                self.too_long(None, run_code, (("b", "x"), ()), code, launch)
            else:
                self.assertEqual(self.call(run_code, (("b", "x"), ()), code, launch), answer)
                done += 1
                issued += len(answer[1])
        self.assertGreater(done, 500)
        self.assertGreater(issued, 1000)

    def test_answers_belong_to_the_caller(self):
        self.stays(run_code, EXAMPLE, code_of(EXAMPLE, WOVEN), [{"a": 1}, {}])
        self.stays(run_code, (("a",), ()), (), [{"a": 1}])

    def test_a_launch_that_was_changed_is_read_anew(self):
        launch, code = [{}], (("set", (0,), "x", ("+", "a", 1)),)
        self.assertEqual(run_code(NOTHING, code, launch)[0], [{"x": 1}])
        launch[0]["a"] = 6
        launch.append({})
        self.assertEqual(run_code(NOTHING, code, launch)[0], [{"x": 7}, {"x": 1}])


def random_code(source, many):
    """Return a code with so many instructions, over few masks."""
    def masks():
        return tuple(sorted(source.sample(range(4), source.randrange(1, 4))))

    code = []
    for _ in range(many):
        kind = source.choice(("set", "set", "test", "test", "join", "skip", "skip", "back"))
        term = source.choice(("a", "b", ("<", "x", 6), ("=", "a", "x"), ("+", "x", 1), 1))
        if kind == "set":
            code.append((kind, masks(), source.choice("abx"), term))
        elif kind == "test":
            code.append((kind, tuple((mask, source.randrange(4), source.randrange(4)) for mask in masks()), term))
        elif kind == "back":
            code.append((kind, source.randrange(len(code) + 1 if source.random() < 0.8 else 0, many + 1)))
        else:
            least = len(code) + 1 if kind == "skip" and source.random() < 0.6 else 0
            code.append((kind, masks(), source.randrange(least, 4 if kind == "join" else many + 1)))
    return tuple(code)


class Bounds(CodeCase):
    def test_just_4000_issues_and_more(self):
        step, test = ("set", (0,), "i", ("+", "i", 1)), ("test", ((0, 0, 1),), ("<", "i", "n"))
        code = (step, test, ("skip", (0,), 4), ("back", 0))
        more = ("set", (0, 1), "x", 1)
        for turns, behind, right in ((2000, (), True), (1999, (more, more), True), (1999, (more,) * 3, False),
                                     (2000, (more,), False), (2001, (), False), (60000, (), False)):
            for launch in ([{"n": turns}], [{"n": turns}, {"n": 3}, {}]):
                if right:
                    issues = self.call(run_code, NOTHING, code + behind, launch)[1]
                    self.assertEqual(len(issues), 4000)
                else:
                    self.too_long(None, run_code, NOTHING, code + behind, launch)

    def test_endless_issues(self):
        self.too_long(None, run_code, NOTHING, (("set", (0,), "x", 1), ("back", 0)), [{}])
        self.too_long(None, run_code, NOTHING, (("test", ((0, 1, 1), (1, 0, 0)), 1), ("back", 0)), [{}, {}])

    def test_just_2000_instructions_without_an_issue_and_more(self):
        for passes, length, more, right in ((5, 400, (), True), (40, 50, (), True), (39, 51, (), True),
                                            (23, 87, (), False), (40, 50, (("join", (99,), 1),), False),
                                            (40, 50, (("back", 51),), False), (40, 50, (("skip", (40,), 0),), False)):
            code = idle(0, 0, passes, length) + more
            self.is_true(is_code, code)
            if right:
                self.check(NOTHING, code, [{}, {}], [{"x": 0}] * 2, [])
            else:
                self.too_long(None, run_code, NOTHING, code, [{}, {}])

    def test_an_issue_behind_2000_instructions(self):
        for last in (("set", (40,), "x", 1), ("test", ((40, 0, 0),), 1)):
            code = idle(0, 0, 40, 50) + (last,)
            self.assertEqual(len(self.call(run_code, NOTHING, code, [{}])[1]), 1)
            code = idle(0, 0, 40, 50) + (("join", (98,), 99), last)
            self.too_long(None, run_code, NOTHING, code, [{}])

    def test_an_issue_begins_the_count_anew(self):
        code = (("set", (0,), "x", 1),) + idle(1, 0, 40, 50) + (("set", (40,), "x", 2),) + idle(52, 40, 40, 50)
        self.assertEqual(len(self.call(run_code, NOTHING, code, [{}, {}])[1]), 2)
        self.too_long(None, run_code, NOTHING, code + (("join", (99,), 1),), [{}])
        # Without the issue between them the same instructions are too many.
        code = (("set", (0,), "x", 1),) + idle(1, 0, 40, 50) + (("set", (3,), "x", 2),) + idle(52, 40, 40, 50)
        self.too_long(None, run_code, NOTHING, code, [{}])

    def test_sets_and_tests_without_lanes_are_free_but_count(self):
        code = (("set", (1,), "x", 1), ("test", ((1, 0, 0),), 1), ("back", 0))
        self.too_long(None, run_code, NOTHING, code, [{}])


class CodeOf(CodeCase):
    def check_code(self, kernel, weave, launches):
        """Check that the code of a weave issues just what the weave issues."""
        code = self.call(code_of, kernel, weave)
        self.is_true(is_code, code)
        for launch in launches:
            found = self.call(run_code, kernel, code, launch)
            self.assertEqual(found, run_weave(kernel, weave, launch))
            self.assertEqual(found, slow_code(kernel[0], code, launch))
            self.check_lanes(kernel, launch, *found)

    def test_the_example(self):
        launches = [[{"a": 1, "b": 5}, {"b": 5}], [{}], [{"a": 2}], [{}] * 8, [{"a": 1}, {}, {"a": 2}, {}]]
        self.check_code(EXAMPLE, WOVEN, launches)
        self.check_code(EXAMPLE, plain_weave(EXAMPLE), launches)

    def test_the_empty_weave(self):
        self.check_code((("x",), ()), (), [[{}], [{"x": 5}, {}]])

    def test_loops(self):
        self.check_code(LOOP, plain_weave(LOOP), [[{}], [{"i": 1}, {}, {"i": 2}]])
        self.check_code(TURNS, plain_weave(TURNS), [[{}], [{"n": 1}, {"n": 9}, {}], [{"n": 249}] * 8])

    def test_lanes_with_many_rows_each(self):
        body = (("if", ("<", "l", 4), two_loops(2), two_loops(6)),)
        self.check_code((("i",), body), plain_weave((("i",), body)), [[{"l": lane} for lane in range(8)]])

    def test_common_items_of_four_sides(self):
        source = random.Random(62)
        launches = [[{name: source.randrange(3) for name in "abcpqr"} for _ in range(8)] for _ in range(20)]
        for names in ("pqpr", "pppp", "pqqp", "ppqq"):
            loops = [("while", name, (("set", name, ("-", name, 1)), SET_X)) for name in names]
            halves = [(("if", term, (one,), (other,)),) for term, one, other in (("b", *loops[:2]), ("c", *loops[2:]))]
            kernel = (("p", "x"), (("if", "a", halves[0], halves[1]),))
            less = tuple(("set", tuple(side for side in range(4) if names[side] == name), name, ("-", name, 1))
                         for name in sorted(set(names)))
            loop = ("loop", (0, 1, 2, 3), less + (("set", (0, 1, 2, 3), "x", 1),))
            self.check_code(kernel, (("split", (0,), (("split", (0, 1), (loop,)),)),), launches)

    def test_great_kernels(self):
        for body in ((SET_X,) * 24, (("while", "a", (SET_X,) * 23),), (("while", "a", ()),) * 24,
                     (("if", "a", (), ()),) * 24):
            kernel = (("x",), body)
            self.check_code(kernel, plain_weave(kernel), [[{}, {}], [{}]])

    def test_random_weaves_and_launches(self):
        source = random.Random(63)
        tried = 0
        while tried < 250:
            kernel = random_kernel(source, source.randrange(1, 25))
            launches = [random_launch(source) for _ in range(4)]
            launches = [launch for launch in launches if None not in [slow_lane(kernel, lane)[1] for lane in launch]]
            self.check_code(kernel, random_weave(source, (kernel[1],)), launches)
            tried += len(launches)

    def test_the_same_each_time(self):
        self.assertEqual(self.call(code_of, EXAMPLE, WOVEN), self.call(code_of, EXAMPLE, WOVEN))


def two_loops(least):
    """Return a branch between lanes below a number and others, with a loop of many rows in each of its bodies."""
    first, second = [(("while", ("<", "i", turns), (("set", "i", ("+", "i", 1)),)),) for turns in (248, 247)]
    return (("if", ("<", "l", least), first, second),)


class Errors(CodeCase):
    def test_what_is_no_kernel(self):
        for thing in NO_KERNELS:
            self.fails(NoKernel, code_of, thing, WOVEN)
            self.fails(NoKernel, run_code, thing, (), [{}])

    def test_what_is_no_weave(self):
        for thing in NO_WEAVES:
            self.fails(NoWeave, code_of, EXAMPLE, thing)
        self.fails(NoWeave, code_of, EXAMPLE, plain_weave(LOOP))
        self.fails(NoWeave, code_of, LOOP, WOVEN)

    def test_what_is_no_code(self):
        right = ("set", (0,), "x", 1)
        for thing in wrong_instructions():
            self.fails(NoCode, run_code, NOTHING, (right, right, thing), [{}])
        for thing in STRANGE:
            if thing != ():
                self.fails(NoCode, run_code, EXAMPLE, thing, [{}])
        self.fails(NoCode, run_code, EXAMPLE, [right], [{}])
        self.fails(NoCode, run_code, EXAMPLE, (("back", 2),), [{}])

    def test_what_is_no_launch(self):
        for thing in NO_LAUNCHES:
            self.fails(NoLaunch, run_code, EXAMPLE, (), thing)

    def test_long_lanes(self):
        for code in ((), (("set", (0,), "x", 1),), code_of(TURNS, plain_weave(TURNS))):
            self.too_long(0, run_code, TURNS, code, [{"n": 250}])
            self.too_long(2, run_code, TURNS, code, [{}, {"n": 249}, {"n": 300}, {"n": 250}])
            self.call(run_code, TURNS, code, [{"n": 249}])

    def test_the_order_of_the_errors(self):
        endless, weave, back = (("x",), (("while", "n", ()),)), (("loop", (0,), ()),), (("back", 0),)
        for thing in NO_KERNELS:
            self.fails(NoKernel, code_of, thing, None)
            self.fails(NoKernel, run_code, thing, None, None)
        for thing in (None, [], (("back", 2),), (("set", (100,), "x", 1),)):
            self.fails(NoCode, run_code, endless, thing, None)
            self.fails(NoCode, run_code, endless, thing, [{"n": 1}])
        for thing in NO_LAUNCHES:
            self.fails(NoLaunch, run_code, endless, back, thing)
        # The long lane is told ahead of the code that does not end, whatever the code does for it.
        self.too_long(1, run_code, endless, back, [{}, {"n": 1}])
        self.too_long(None, run_code, endless, back, [{}, {}])
        self.too_long(1, run_code, endless, code_of(endless, weave), [{}, {"n": 1}, {"n": 2}])


if __name__ == "__main__":
    unittest.main()
