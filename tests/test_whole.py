"""What holds over the whole program: plain code, woven code and machine code, passes, texts and plans together."""

import random
import unittest

from samples import EXAMPLE, LOOP, RunCase, WOVEN
from slow import random_launch, random_weave, slow_lane
from sideweave.alone import trace
from sideweave.codes import code_of, run_code
from sideweave.errors import TooMany
from sideweave.fewest import fewest, is_prices
from sideweave.machines import Machine
from sideweave.passes import drop, fold, pull, same
from sideweave.plain import run_plain
from sideweave.plans import Plan
from sideweave.prices import checks, price, visits
from sideweave.texts import read_kernel, write_kernel
from sideweave.traces import fewest_ways, is_way
from sideweave.weaves import is_weave, plain_weave
from sideweave.woven import run_weave
from test_passes import drawn_kernels


def short_lanes(kernel, launch):
    """Return the lanes of a launch that are not long."""
    return [lane for lane in launch if slow_lane(kernel, lane)[1] is not None]


def by_machine(kernel, code, launch):
    """Return the ends and the issues of a machine that runs to the end."""
    machine = Machine(kernel, code, launch)
    while machine.step() is not None:
        pass
    return machine.ends(), machine.issues()


class Whole(RunCase):
    def agree(self, kernel, weave, launch):
        """Check that all codes give each lane what it does alone; return the numbers of plain and of woven rows."""
        plain = run_plain(kernel, launch)
        woven = run_weave(kernel, weave, launch)
        for ends, issues in (plain, woven):
            self.check_lanes(kernel, launch, ends, issues)
            self.assertEqual(ends, [slow_lane(kernel, lane)[0] for lane in launch])
        code = code_of(kernel, weave)
        self.assertEqual(run_code(kernel, code, launch), woven)
        self.assertEqual(by_machine(kernel, code, launch), woven)
        self.assertEqual(run_weave(kernel, plain_weave(kernel), launch), plain)
        self.assertLessEqual(len(woven[1]), len(plain[1]))
        self.assertEqual(price(kernel, weave, [launch]), len(woven[1]))
        return len(plain[1]), len(woven[1])

    def test_all_codes_give_each_lane_what_it_does_alone(self):
        source = random.Random(161)
        less = tried = 0
        for kernel, launch in drawn_kernels(162, 300):
            launch = short_lanes(kernel, launch)
            if launch:
                plain, woven = self.agree(kernel, random_weave(source, (kernel[1],)), launch)
                less += woven < plain
                tried += 1
        self.assertGreater(tried, 100)
        self.assertGreater(less, 10)

    def test_no_code_issues_fewer_rows_than_a_way(self):
        source = random.Random(163)
        tried = same_number = 0
        for kernel, launch in drawn_kernels(164, 200):
            launch = short_lanes(kernel, launch)[:3]
            traces = [trace(kernel, lane) for lane in launch]
            if launch and max(map(len, traces)) <= 13:
                number = fewest_ways(traces)[0]
                weave = random_weave(source, (kernel[1],))
                for issues in (run_plain(kernel, launch)[1], run_weave(kernel, weave, launch)[1]):
                    self.is_true(is_way, traces, issues)
                    self.assertGreaterEqual(len(issues), number)
                    same_number += len(issues) == number
                tried += 1
        self.assertGreater(tried, 80)
        self.assertGreater(same_number, 30)

    def test_fewest_issues_as_many_rows_as_its_price(self):
        tried = 0
        source = random.Random(165)
        for kernel, launch in drawn_kernels(166, 80):
            launches = [launch, random_launch(source, 3), random_launch(source, 2)]
            launches = [each for each in [short_lanes(kernel, each) for each in launches] if each]
            if not launches:
                continue
            try:
                least, weave, prices = fewest(kernel, launches)
            except TooMany:
                continue
            self.is_true(is_weave, (kernel[1],), weave)
            self.is_true(is_prices, kernel, launches, prices)
            self.assertEqual(prices[((),)][(0,)], least)
            self.assertEqual(sum(self.agree(kernel, weave, each)[1] for each in launches), least)
            for other in (plain_weave(kernel), random_weave(source, (kernel[1],))):
                self.assertLessEqual(least, price(kernel, other, launches))
            tried += 1
        self.assertGreater(tried, 50)

    def test_visits_and_checks_count_what_the_plain_code_issues(self):
        for kernel, launch in drawn_kernels(167, 60):
            launch = short_lanes(kernel, launch)
            if launch:
                visited, checked = visits(kernel, [launch]), checks(kernel, [launch])
                self.assertEqual(rows_of(kernel[1], (), visited, checked), len(run_plain(kernel, launch)[1]))

    def test_passes_and_texts_keep_ends_and_traces(self):
        source = random.Random(168)
        for kernel, launch in drawn_kernels(169, 60):
            launch = short_lanes(kernel, launch)
            other = kernel
            for _ in range(4):
                before, other = other, source.choice((fold, drop, same, pull))(other)
                self.assertEqual(read_kernel(write_kernel(other)), other)
                for lane in launch:
                    self.assertEqual(slow_lane(other, lane)[0], slow_lane(kernel, lane)[0])
                    self.assertLessEqual(len(trace(other, lane)), len(trace(before, lane)))
            if launch:
                self.agree(other, random_weave(source, (other[1],)), launch)
                ends = run_code(kernel, code_of(other, plain_weave(other)), launch)[0]
                self.assertEqual(ends, [slow_lane(kernel, lane)[0] for lane in launch])

    def test_the_examples(self):
        launch = [{"a": 1, "b": 5}, {"b": 5}]
        row = ("set", "x", ("+", "x", "b"))
        self.assertEqual(run_weave(EXAMPLE, WOVEN, launch)[1],
                         [(("test", "a"), (0, 1)), (("set", "x", 1), (0,)), (row, (0, 1))])
        self.assertEqual([visits(LOOP, [[{}]])[(0, 0)], checks(LOOP, [[{}]])],
                         [[(0, 0), (0, 1)], {(0, 0): [(0, 0), (0, 1), (0, 2)]}])
        self.assertEqual(fewest(EXAMPLE, [[{"a": 1}, {}]])[:2], (3, WOVEN))
        more = ("set", "x", ("+", "x", 1))
        code = (("test", ((0, 1, 2),), "a"), ("set", (1,), "x", 7), ("join", (1,), 2), ("set", (2,)) + more[1:])
        self.assertEqual(run_code(EXAMPLE, code, [{"a": 3}, {}]), (
            [{"x": 8}, {"x": 1}], [(("test", "a"), (0, 1)), (("set", "x", 7), (0,)), (more, (0, 1))]))
        plan = Plan(EXAMPLE)
        found = [plan.include([{"a": 1}, {}]), plan.bounds(), plan.improve(), plan.bounds(), plan.undo(), plan.bounds()]
        self.assertEqual(found, [None, (0, 4), None, (3, 3), None, (0, 4)])


def rows_of(body, path, visited, checked):
    """Return the number of issues of the plain code of a body, by its visits and checks."""
    found = 0
    for at, statement in enumerate(body):
        found += len(checked[path + (at, 0)] if statement[0] == "while" else visited[path])
        for number, inner in enumerate(statement[2:] if statement[0] != "set" else ()):
            found += rows_of(inner, path + (at, number), visited, checked)
    return found


if __name__ == "__main__":
    unittest.main()
