"""Ways of traces and their tables."""

import random
import unittest
from itertools import product

from samples import Case, SET_X, SET_Y, STRANGE, nested_term
from slow import random_kernel, random_launch, random_weave, slow_lane
from sideweave import traces as module
from sideweave.errors import NoTraces, TooMany
from sideweave.plain import run_plain
from sideweave.traces import fewest_ways, is_table, is_way
from sideweave.woven import run_weave

TEST_A = ("test", "a")
TEST_B = ("test", ("<", "b", 2))
ROWS = (SET_X, SET_Y, TEST_A, TEST_B)
PAIR = [[SET_X, TEST_A, SET_Y], [TEST_A, SET_X, SET_Y]]
# The greatest table of PAIR.
GREATEST = {
    (0, 0): 4, (0, 1): 3, (0, 2): 3, (0, 3): 3, (1, 0): 3, (1, 1): 3, (1, 2): 2, (1, 3): 2,
    (2, 0): 3, (2, 1): 2, (2, 2): 1, (2, 3): 1, (3, 0): 3, (3, 1): 2, (3, 2): 1, (3, 3): 0,
}
NO_ROWS = STRANGE + (
    list(SET_X), ("set", "x"), ("set", "x", 1, 1), ("set", "X", 1), ("set", 1, 1), ("set", "x", True),
    ("set", "x", -1), ("set", "x", ("+", 1)), ("set", "x", nested_term(5)), ("test",), ("test", "a", 1), ("test", True),
    ("test", "A"), ("test", 65536), ("if", "a"), ("while", "a"), ("if", "a", (), ()), ("Test", "a"), (None, "a"),
    (["test"], "a"), ("set", (0,), "x", 1), ("test", ["a"]), ("set", ["x"], 1),
)


def wrong_traces():
    """Return what is no list of one to three lists of rows."""
    wrong = list(STRANGE) + [[], (), ([],), ([SET_X],), [[]] * 4, [[SET_X]] * 4, [(SET_X,)], [[], (SET_X,)], [SET_X]]
    wrong += [[{}], [None], [[], [], None], {0: []}, {"a": [SET_X]}, [{SET_X: 1}], ["ab"], [[[SET_X]]]]
    wrong += [[[thing]] for thing in NO_ROWS] + [[[SET_X], [SET_X, thing]] for thing in NO_ROWS]
    return wrong + [[[], [], [thing, SET_X]] for thing in NO_ROWS]


def slow_fewest(traces):
    """Return the fewest entries of a way: level by level, all places that so many entries may lead to."""
    ends = tuple(len(trace) for trace in traces)
    reached, many = {(0,) * len(traces)}, 0
    while ends not in reached:
        further = set()
        for places in reached:
            nexts = [trace[place] if place < len(trace) else None for trace, place in zip(traces, places)]
            for row in set(nexts) - {None}:
                steps = [(0, 1) if head == row else (0,) for head in nexts]
                further |= {tuple(map(sum, zip(places, step))) for step in product(*steps) if any(step)}
        reached, many = further, many + 1
    return many


def random_traces(source, longest):
    many = source.randrange(1, 4)
    return [[source.choice(ROWS) for _ in range(source.randrange(longest + 1))] for _ in range(many)]


def places_of(traces):
    return list(product(*[range(len(trace) + 1) for trace in traces]))


class TracesCase(Case):
    def check(self, traces, number):
        """Check the fewest entries, and that the way and the table belong to them; return the way."""
        found = self.call(fewest_ways, traces)
        self.assertIs(found.__class__, tuple)
        self.assertEqual(len(found), 3)
        self.assertEqual(found[0], number)
        self.assertIs(found[0].__class__, int)
        self.assertIs(found[1].__class__, list)
        self.assertEqual(len(found[1]), number)
        self.is_true(is_way, traces, found[1])
        self.is_true(is_table, traces, found[2])
        self.assertEqual(sorted(found[2]), places_of(traces))
        self.assertEqual(found[2][(0,) * len(traces)], number)
        self.assertEqual(number, slow_fewest(traces))
        return found[1]


class FewestWays(TracesCase):
    def test_interface(self):
        self.assertEqual({function.__module__ for function in (fewest_ways, is_way, is_table)}, {module.__name__})

    def test_one_trace(self):
        self.assertEqual(self.call(fewest_ways, [[]]), (0, [], {(0,): 0}))
        self.assertEqual(self.call(fewest_ways, [[SET_X]])[:2], (1, [(SET_X, (0,))]))
        for trace in ([SET_X, SET_X], [SET_X, TEST_A, SET_X, SET_Y], [TEST_B] * 9):
            self.assertEqual(self.check([trace], len(trace)), [(row, (0,)) for row in trace])

    def test_empty_traces(self):
        self.assertEqual(self.call(fewest_ways, [[], []]), (0, [], {(0, 0): 0}))
        self.assertEqual(self.call(fewest_ways, [[], [], []]), (0, [], {(0, 0, 0): 0}))
        self.check([[], [SET_X, TEST_A]], 2)
        self.check([[SET_X], [], [SET_X]], 1)

    def test_equal_traces(self):
        trace = [SET_X, TEST_A, SET_X, SET_Y]
        self.assertEqual(self.check([trace, trace], 4), [(row, (0, 1)) for row in trace])
        self.assertEqual(self.check([trace, list(trace), trace], 4), [(row, (0, 1, 2)) for row in trace])

    def test_traces_with_nothing_in_common(self):
        self.check([[SET_X, SET_X], [SET_Y, TEST_A, SET_Y]], 5)
        self.check([[SET_X, SET_X], [SET_Y], [TEST_A, TEST_A]], 5)
        # A set and a test of the same term are not the same row, nor are sets of other registers.
        self.check([[("set", "x", "a")], [("test", "a")], [("set", "y", "a")]], 3)

    def test_rows_in_common(self):
        self.check(PAIR, 4)
        self.assertEqual(self.call(fewest_ways, PAIR)[2], GREATEST)
        self.check([[SET_X, SET_Y], [SET_Y, SET_X]], 3)
        self.check([[SET_X, SET_Y, SET_X], [SET_Y, SET_X, SET_Y]], 4)
        self.check([[SET_X, TEST_A], [TEST_A, TEST_B], [TEST_B, SET_X]], 4)
        self.check([[SET_X, TEST_A, TEST_B], [SET_X, TEST_B], [TEST_A, TEST_B]], 3)
        self.check([[SET_X] * 3, [SET_X], [SET_X] * 2], 3)

    def test_a_row_that_some_of_those_that_could_take_it_take(self):
        # Both could take SET_X at first, but the second one waits for it in a way with the fewest entries.
        self.check([[SET_X, SET_Y, SET_X, TEST_A], [SET_X, TEST_A]], 4)
        self.check([[SET_X, SET_X, TEST_A], [SET_X, TEST_A], [SET_X, SET_X]], 3)

    def test_against_another_way(self):
        source = random.Random(91)
        for _ in range(250):
            traces = random_traces(source, 6)
            self.check(traces, slow_fewest(traces))

    def test_each_number_of_the_table_is_bound_by_all_steps(self):
        source = random.Random(92)
        for _ in range(40):
            traces = random_traces(source, 3)
            table = self.call(fewest_ways, traces)[2]
            for places in table:
                rest = [trace[place:] for trace, place in zip(traces, places)]
                self.assertLessEqual(table[places], slow_fewest(rest))

    def test_no_run_issues_fewer_rows(self):
        source = random.Random(93)
        tried = less = 0
        while tried < 120:
            kernel, launch = random_kernel(source, source.randrange(2, 13)), random_launch(source, 3)
            traces = [slow_lane(kernel, registers)[1] for registers in launch]
            if None in traces or max(map(len, traces)) > 12:
                continue
            number = self.call(fewest_ways, traces)[0]
            for issues in (run_plain(kernel, launch)[1],
                           run_weave(kernel, random_weave(source, (kernel[1],)), launch)[1]):
                self.is_true(is_way, traces, issues)
                self.assertGreaterEqual(len(issues), number)
                less += len(issues) > number
            tried += 1
        self.assertGreater(less, 5)

    def test_answers_belong_to_the_caller(self):
        self.stays(fewest_ways, PAIR)
        self.stays(fewest_ways, [[], []])

    def test_traces_that_were_changed_are_read_anew(self):
        traces = [[SET_X], [SET_X]]
        number, way, table = fewest_ways(traces)
        self.assertEqual(number, 1)
        traces[1].append(SET_Y)
        self.is_false(is_way, traces, way)
        self.is_false(is_table, traces, table)
        self.check(traces, 2)
        traces[0][0] = SET_Y
        self.check(traces, 2)
        traces.append([TEST_A])
        self.check(traces, 3)
        traces.append([])
        self.fails(NoTraces, fewest_ways, traces)
        del traces[:]
        self.fails(NoTraces, fewest_ways, traces)
        traces.append([("test", True)])
        self.fails(NoTraces, fewest_ways, traces)


class IsWay(TracesCase):
    WAY = [(TEST_A, (1,)), (SET_X, (0, 1)), (TEST_A, (0,)), (SET_Y, (0, 1))]

    def test_ways(self):
        self.is_true(is_way, PAIR, self.WAY)
        self.is_true(is_way, PAIR, self.WAY[:3] + [(SET_Y, (1,)), (SET_Y, (0,))])
        self.is_true(is_way, PAIR, [(row, (0,)) for row in PAIR[0]] + [(row, (1,)) for row in PAIR[1]])
        self.is_true(is_way, [[]], [])
        self.is_true(is_way, [[], [], []], [])
        self.is_true(is_way, [[SET_X], [SET_X], [SET_X]], [(SET_X, (0, 2)), (SET_X, (1,))])

    def test_an_entry_left_out_put_in_or_changed(self):
        for at in range(len(self.WAY)):
            self.is_false(is_way, PAIR, self.WAY[:at] + self.WAY[at + 1:])
            for entry in self.WAY + [(SET_X, (0,)), (SET_Y, (1,)), (TEST_B, (0,))]:
                self.is_false(is_way, PAIR, self.WAY[:at] + [entry] + self.WAY[at:])
                if entry != self.WAY[at]:
                    self.is_false(is_way, PAIR, self.WAY[:at] + [entry] + self.WAY[at + 1:])
        self.is_false(is_way, PAIR, self.WAY + [(SET_Y, (0, 1))])
        self.is_false(is_way, PAIR, [])
        self.is_false(is_way, [[]], [(SET_X, (0,))])

    def test_entries_exchanged(self):
        for one in range(4):
            for other in range(one):
                way = list(self.WAY)
                way[one], way[other] = way[other], way[one]
                self.is_false(is_way, PAIR, way)
        self.is_false(is_way, PAIR, self.WAY[::-1])

    def test_traces_that_can_not_be(self):
        for takers in ((1, 0), (0, 0), (1, 1), (0, 1, 1), (0, 1, 2), (0, 2), (2,), (-1, 0), (-1,), (), (0,), (1,), 0, 1,
                       (False, True), (0, True), (False, 1), [0, 1], None, "01", ("0", "1"), (None,), {}, {0: 1},
                       ((0, 1),), (0, 10 ** 19), (0, 1, 2, 3), True):
            self.is_false(is_way, PAIR, self.WAY[:3] + [(SET_Y, takers)])
        self.is_false(is_way, [[SET_X]], [(SET_X, (False,))])
        self.is_false(is_way, [[SET_X], [SET_X]], [(SET_X, (True,)), (SET_X, (0,))])

    def test_entries_of_other_kinds(self):
        for entry in STRANGE + (SET_Y, (SET_Y,), (SET_Y, (0, 1), 0), [SET_Y, (0, 1)], ((0, 1), SET_Y),
                                (SET_Y, (0, 1), ())):
            self.is_false(is_way, PAIR, self.WAY[:3] + [entry])
            self.is_false(is_way, PAIR, self.WAY + [entry])

    def test_rows_of_other_kinds(self):
        for row in NO_ROWS:
            self.is_false(is_way, [[SET_X]], [(row, (0,))])
        # True stands beside 1, but is no term.
        self.is_false(is_way, [[("set", "x", 1)]], [(("set", "x", True), (0,))])
        self.is_false(is_way, [[("test", ("+", 0, "x"))]], [(("test", ("+", False, "x")), (0,))])

    def test_what_is_no_list(self):
        for thing in STRANGE:
            if thing != []:
                self.is_false(is_way, PAIR, thing)
                self.is_false(is_way, [[]], thing)
        self.is_false(is_way, PAIR, tuple(self.WAY))
        self.is_false(is_way, PAIR, {0: self.WAY})
        self.is_false(is_way, PAIR, [self.WAY])

    def test_random_ways_and_changed_ones(self):
        source = random.Random(94)
        for _ in range(60):
            traces = random_traces(source, 5)
            way = self.call(fewest_ways, traces)[1]
            self.is_true(is_way, traces, way)
            for at in range(len(way)):
                row, takers = way[at]
                apart = [(row, (taker,)) for taker in takers]
                self.is_true(is_way, traces, way[:at] + apart + way[at + 1:])
                self.is_false(is_way, traces, way[:at] + way[at + 1:])

    def test_long_traces(self):
        trace = [SET_X, TEST_A] * 1400
        self.is_true(is_way, [trace, trace], [(row, (0, 1)) for row in trace])
        self.is_false(is_way, [trace, trace], [(row, (0, 1)) for row in trace[1:]])


class IsTable(TracesCase):
    def changed(self, places, number):
        return GREATEST | {places: number}

    def test_the_greatest_table(self):
        self.is_true(is_table, PAIR, GREATEST)
        self.is_true(is_table, [[]], {(0,): 0})
        self.is_true(is_table, [[], [], []], {(0, 0, 0): 0})
        self.is_true(is_table, [[SET_X]], {(0,): 1, (1,): 0})

    def test_a_number_one_too_great(self):
        for places in GREATEST:
            self.is_false(is_table, PAIR, self.changed(places, GREATEST[places] + 1))
            self.is_false(is_table, PAIR, self.changed(places, 10 ** 19))

    def test_smaller_numbers(self):
        self.is_true(is_table, PAIR, self.changed((0, 0), 3))
        self.is_true(is_table, PAIR, self.changed((0, 0), 0))
        # What stands ahead of a smaller number is then too great.
        self.is_false(is_table, PAIR, self.changed((3, 2), 0))
        self.is_false(is_table, PAIR, self.changed((1, 1), 1))
        lower = {places: max(0, number - 1) for places, number in GREATEST.items()}
        self.is_true(is_table, PAIR, lower)

    def test_all_0(self):
        zeros = dict.fromkeys(GREATEST, 0)
        self.is_true(is_table, PAIR, zeros)
        self.is_false(is_table, PAIR, zeros | {(3, 3): 1})
        self.is_true(is_table, PAIR, zeros | {(3, 2): 1})
        self.is_false(is_table, [[]], {(0,): 1})

    def test_places_too_few_or_too_many(self):
        for places in GREATEST:
            fewer = {other: number for other, number in GREATEST.items() if other != places}
            self.is_false(is_table, PAIR, fewer)
            for other in ((), (0,), (0, 0, 0), (4, 0), (0, 4), (-1, 0), None, 0, "00", ("0", "0"), (places,), (9, 9)):
                self.is_false(is_table, PAIR, GREATEST | {other: 0})
                self.is_false(is_table, PAIR, fewer | {other: 0})
        self.is_false(is_table, PAIR, {})
        self.is_false(is_table, [[]], {})
        self.is_false(is_table, [[]], {(): 0})

    def test_booleans_in_keys(self):
        for places in GREATEST:
            if min(places) < 2:
                fewer = {other: number for other, number in GREATEST.items() if other != places}
                strange = tuple(bool(place) if place < 2 else place for place in places)
                self.is_false(is_table, PAIR, fewer | {strange: GREATEST[places]})
        self.is_false(is_table, [[]], {(False,): 0})

    def test_numbers_of_other_kinds(self):
        for places in ((0, 0), (3, 3), (2, 3)):
            for number in (-1, True, False, None, "0", "", (), (0,), [], [0], {}, -10 ** 19):
                self.is_false(is_table, PAIR, self.changed(places, number))

    def test_the_order_of_the_keys_means_nothing(self):
        self.is_true(is_table, PAIR, dict(reversed(GREATEST.items())))
        self.is_true(is_table, PAIR, {places: GREATEST[places] for places in sorted(GREATEST, key=sum)})

    def test_what_is_no_dict(self):
        for thing in STRANGE:
            self.is_false(is_table, PAIR, thing)
            self.is_false(is_table, [[]], thing)
        self.is_false(is_table, PAIR, list(GREATEST.items()))
        self.is_false(is_table, PAIR, (GREATEST,))

    def test_tables_of_other_traces(self):
        self.is_false(is_table, [PAIR[0], PAIR[0]], GREATEST)
        self.is_true(is_table, [[SET_X, SET_Y, SET_X], [TEST_A, TEST_B, TEST_A]], GREATEST)
        self.is_false(is_table, [PAIR[0]], GREATEST)

    def test_each_one_greater_is_too_great(self):
        source = random.Random(95)
        for _ in range(25):
            traces = random_traces(source, 3)
            table = self.call(fewest_ways, traces)[2]
            for places in table:
                self.is_false(is_table, traces, table | {places: table[places] + 1})


class HowMany(TracesCase):
    def refuses(self, traces):
        self.fails(TooMany, fewest_ways, traces)
        for thing in (None, {}, GREATEST):
            self.fails(TooMany, is_table, traces, thing)

    def test_just_3000_places_and_more(self):
        for lengths in ((2999,), (49, 59), (9, 14, 19), (0, 2999), (0, 0, 2999), (1, 1499)):
            traces = [[SET_X] * length for length in lengths]
            number, way, table = self.call(fewest_ways, traces)
            self.assertEqual((number, len(way), len(table)), (max(lengths), max(lengths), 3000))
            self.is_true(is_table, traces, table)
        for lengths in ((3000,), (53, 55), (49, 60), (9, 14, 20), (0, 3000), (2000, 2000, 2000), (3000, 0, 0),
                        (2999, 1)):
            self.refuses([[SET_X] * length for length in lengths])

    def test_ways_of_any_number_of_places(self):
        traces = [[SET_X] * 3000, [SET_Y] * 10]
        self.refuses(traces)
        self.is_true(is_way, traces, [(SET_X, (0,))] * 3000 + [(SET_Y, (1,))] * 10)
        self.is_false(is_way, traces, [(SET_X, (0,))] * 3000)


class Errors(TracesCase):
    def test_what_are_no_traces(self):
        for thing in wrong_traces():
            self.fails(NoTraces, fewest_ways, thing)
            for other in (None, [], {}, {(0,): 0}):
                self.fails(NoTraces, is_way, thing, other)
                self.fails(NoTraces, is_table, thing, other)

    def test_no_traces_comes_ahead_of_too_many(self):
        self.fails(NoTraces, fewest_ways, [[SET_X] * 3000, [None]])
        self.fails(NoTraces, is_table, [[SET_X] * 60, [SET_X] * 60, [SET_X] * 60, []], None)


if __name__ == "__main__":
    unittest.main()
