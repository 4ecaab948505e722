"""Orders of bodies of sets, the best ones for a weave, and floors."""

import copy
import random
import unittest
from itertools import combinations, permutations

from samples import Case, SET_X, SET_Y, STRANGE, nested_term
from slow import random_term
from sideweave import orders
from sideweave.alone import end
from sideweave.errors import NoBodies, TooMany
from sideweave.orders import best_orders, is_floor, is_order
from sideweave.terms import names_of
from sideweave.weaves import is_weave

SET_Z = ("set", "z", 3)
READ_X = ("set", "w", ("+", "x", 1))
PAIR = ((SET_X, SET_Y), (SET_Y, READ_X))
# The greatest floor of PAIR.
GREATEST = {
    ((), ()): 3, ((), (0,)): 3, ((), (1,)): 2, ((), (0, 1)): 2,
    ((0,), ()): 2, ((0,), (0,)): 2, ((0,), (1,)): 1, ((0,), (0, 1)): 1,
    ((1,), ()): 3, ((1,), (0,)): 2, ((1,), (1,)): 2, ((1,), (0, 1)): 1,
    ((0, 1), ()): 2, ((0, 1), (0,)): 1, ((0, 1), (1,)): 1, ((0, 1), (0, 1)): 0,
}
NO_SETS = (
    list(SET_X), ("set", "x"), ("set", "x", 1, 1), ("set", "X", 1), ("set", 1, 1), ("set", "x", True), ("set", "x", -1),
    ("set", "x", ("+", 1)), ("set", "x", nested_term(5)), ("if", "a", (), ()), ("if", "a", (SET_X,), ()),
    ("while", "a", ()), ("while", "a", (SET_X,)), ("test", "a"), ("Set", "x", 1), (None, "x", 1), (["set"], "x", 1),
    ("set", (0,), "x", 1), ("set", ["x"], 1), ("set", "x", [1]), ("set", "x", None), ("set", "x", False),
)


def letters(many):
    """Return so many sets that do not touch."""
    return tuple(("set", letter, 1) for letter in "abcdefgh"[:many])


def wrong_bodies():
    """Return what is no body of at most six sets."""
    wrong = [thing for thing in STRANGE if thing != ()] + [letters(7), (SET_X,) * 7, (SET_X,) * 24, (SET_X,) * 25]
    wrong += [[SET_X], [], SET_X, {0: SET_X}, (SET_X, [SET_Y]), ((SET_X,),), (SET_X, None), ({},), ("set",)]
    return wrong + [(thing,) for thing in NO_SETS] + [(SET_X, thing, SET_Y) for thing in NO_SETS]


def slow_touch(one, other):
    return one[1] in (other[1],) + names_of(other[2]) or other[1] in names_of(one[2])


def slow_orders(body):
    """Return the set of all orders of a body: what is left of all arrangements of its statements' numbers."""
    pairs = [(one, other) for one, other in combinations(range(len(body)), 2) if slow_touch(body[one], body[other])]
    return {tuple(body[number] for number in numbers) for numbers in permutations(range(len(body)))
            if all(numbers.index(one) < numbers.index(other) for one, other in pairs)}


def in_common(one, other):
    """Return how many statements two bodies have in common, in order."""
    most = 0
    for many in range(1, min(len(one), len(other)) + 1):
        if {*combinations(one, many)} & {*combinations(other, many)}:
            most = many
    return most


def slow_best(one, other):
    """Return the fewest items of a weave of orders of two bodies."""
    return min(len(one) + len(other) - in_common(first, second)
               for first in slow_orders(one) for second in slow_orders(other))


def slow_closed(body):
    """Return all closed sets of a body."""
    return [numbers for many in range(len(body) + 1) for numbers in combinations(range(len(body)), many)
            if all(at in numbers for number in numbers for at in range(number) if slow_touch(body[at], body[number]))]


def random_sets(source, many):
    """Return a body of so many sets over few names, often the same ones."""
    found = []
    for _ in range(many):
        if source.random() < 0.6:
            found.append(source.choice((SET_X, SET_Y, SET_Z, READ_X, ("set", "x", "y"), ("set", "x", ("+", "x", 1)))))
        else:
            found.append(("set", source.choice("uvwxyz"), random_term(source, "uvwxyz", 1)))
    return tuple(found)


class OrdersCase(Case):
    def check(self, one, other, number):
        """Check the number of items, and that all of the answer belongs together."""
        found = self.call(best_orders, one, other)
        self.assertIs(found.__class__, tuple)
        self.assertEqual(len(found), 5)
        self.assertEqual(found[0], number)
        self.assertIs(found[0].__class__, int)
        _, first, second, weave, table = found
        self.is_true(is_order, one, first)
        self.is_true(is_order, other, second)
        self.assertIn(first, slow_orders(one))
        self.assertIn(second, slow_orders(other))
        self.is_true(is_weave, (first, second), weave)
        self.assertEqual(len(weave), number)
        self.is_true(is_floor, one, other, table)
        pairs = [(mine, theirs) for mine in slow_closed(one) for theirs in slow_closed(other)]
        self.assertEqual(sorted(table), sorted(pairs))
        self.assertEqual(table[((), ())], number)
        return found


class BestOrders(OrdersCase):
    def test_interface(self):
        self.assertEqual({function.__module__ for function in (best_orders, is_order, is_floor)}, {orders.__name__})

    def test_empty_bodies(self):
        self.assertEqual(self.call(best_orders, (), ()), (0, (), (), (), {((), ()): 0}))
        self.assertEqual(self.call(best_orders, (SET_X,), ())[:4], (1, (SET_X,), (), (("set", (0,), "x", 1),)))
        self.assertEqual(self.call(best_orders, (), (SET_X,))[:4], (1, (), (SET_X,), (("set", (1,), "x", 1),)))
        self.check((), (SET_X, SET_Y, SET_X), 3)

    def test_common_sets(self):
        self.assertEqual(self.check((SET_X,), (SET_X,), 1)[3], (("set", (0, 1), "x", 1),))
        self.check((SET_X, SET_Y), (SET_X, SET_Y), 2)
        self.check((SET_X, SET_Y), (SET_Z, SET_X), 3)
        self.check((SET_X,), (SET_Y,), 2)
        self.check((SET_X, SET_X), (SET_X,), 2)
        self.assertEqual(self.check(*PAIR, 3)[4], GREATEST)

    def test_the_same_sets_in_another_order(self):
        # They do not touch, so both may stand in the same order.
        self.check((SET_X, SET_Y, SET_Z), (SET_Z, SET_Y, SET_X), 3)
        self.check(letters(5), letters(5)[::-1], 5)
        self.check((SET_X, SET_Y), (SET_Y, SET_X), 2)

    def test_sets_that_touch(self):
        more = ("set", "x", 2)
        # They set the same register, or one reads what the other one sets, so their order stays.
        self.check((SET_X, more), (more, SET_X), 3)
        self.check((SET_X, READ_X), (READ_X, SET_X), 3)
        self.check((("set", "y", "x"), ("set", "x", "z")), (("set", "x", "z"), ("set", "y", "x")), 3)
        self.check((SET_X, READ_X, SET_Y), (SET_Y, READ_X, SET_X), 4)
        # That both read the same register does not make them touch.
        self.check((READ_X, ("set", "v", "x")), (("set", "v", "x"), READ_X), 2)

    def test_chains_of_sets_that_touch(self):
        chain = (SET_X, ("set", "y", "x"), ("set", "z", "y"))
        self.check(chain, chain[::-1], 5)
        self.check(chain, (SET_Z, SET_Y) + chain, 5)
        self.check((SET_Z,) + chain[:2], chain[:2] + (SET_Z,), 3)

    def test_sets_that_come_twice(self):
        self.check((SET_X, SET_Y, SET_X), (SET_X, SET_X), 3)
        self.check((SET_X, READ_X, SET_X, READ_X), (SET_X, SET_X, READ_X), 4)
        self.check((SET_X, READ_X, SET_X), (SET_X, SET_X, READ_X), 4)
        self.check((SET_X, READ_X, SET_X), (SET_X, READ_X, SET_X), 3)

    def test_against_all_orders(self):
        source = random.Random(111)
        better = 0
        for _ in range(120):
            one, other = [random_sets(source, source.randrange(5)) for _ in range(2)]
            if source.random() < 0.5:
                other = tuple(source.sample(one, len(one))) + other[:1]
            number = slow_best(one, other)
            self.check(one, other, number)
            better += number < len(one) + len(other) - in_common(one, other)
        self.assertGreater(better, 8)

    def test_six_sets_each(self):
        source = random.Random(112)
        tried = 0
        while tried < 8:
            one, other = random_sets(source, 6), random_sets(source, 6)
            if len(slow_orders(one)) * len(slow_orders(other)) < 600:
                self.check(one, other, slow_best(one, other))
                tried += 1

    def test_orders_end_with_the_same_registers(self):
        source = random.Random(113)
        for _ in range(60):
            one, other = random_sets(source, 5), random_sets(source, 5)
            found = self.call(best_orders, one, other)
            for body, order in ((one, found[1]), (other, found[2])):
                for _ in range(5):
                    lane = {name: source.randrange(4) for name in "uvwxyz"}
                    names = tuple("uvwxyz")
                    self.assertEqual(end((names, order), lane), end((names, body), lane))

    def test_answers_belong_to_the_caller(self):
        self.stays(best_orders, *PAIR)
        self.stays(best_orders, (), ())


class IsOrder(OrdersCase):
    def test_the_body_itself(self):
        for body in ((), (SET_X,), (SET_X, SET_X), (SET_X, READ_X, SET_Y), letters(6)):
            self.is_true(is_order, body, body)

    def test_two_sets_exchanged(self):
        self.is_true(is_order, (SET_X, SET_Y), (SET_Y, SET_X))
        self.is_true(is_order, (READ_X, ("set", "v", "x")), (("set", "v", "x"), READ_X))
        self.is_true(is_order, (SET_X, SET_X), (SET_X, SET_X))
        self.is_false(is_order, (SET_X, READ_X), (READ_X, SET_X))
        self.is_false(is_order, (READ_X, SET_X), (SET_X, READ_X))
        self.is_false(is_order, (SET_X, ("set", "x", 2)), (("set", "x", 2), SET_X))
        self.is_false(is_order, (("set", "x", "y"), ("set", "y", "x")), (("set", "y", "x"), ("set", "x", "y")))

    def test_all_arrangements(self):
        source = random.Random(114)
        for _ in range(40):
            body = random_sets(source, source.randrange(1, 5))
            right = slow_orders(body)
            for thing in permutations(body):
                self.assertIs(self.call(is_order, body, thing), thing in right, (body, thing))

    def test_equal_sets_keep_what_stands_between_them(self):
        body = (SET_X, READ_X, SET_X)
        self.is_true(is_order, body, body)
        self.is_false(is_order, body, (SET_X, SET_X, READ_X))
        self.is_false(is_order, body, (READ_X, SET_X, SET_X))
        self.is_true(is_order, (SET_X, SET_Y, SET_X), (SET_X, SET_X, SET_Y))

    def test_a_set_left_out_twice_or_changed(self):
        body = (SET_X, SET_Y, SET_Z)
        for thing in ((), (SET_X, SET_Y), (SET_X, SET_Z), (SET_Y, SET_Z), body + (SET_Z,), (SET_X, SET_X, SET_Y),
                      (SET_X, SET_Y, SET_Y), (SET_X, SET_Y, ("set", "z", 4)), (SET_X, SET_Y, READ_X), body + body):
            self.is_false(is_order, body, thing)
        self.is_false(is_order, (), (SET_X,))
        self.is_false(is_order, (SET_X, SET_Y, SET_Y), (SET_X, SET_X, SET_Y))

    def test_other_kinds(self):
        for thing in wrong_bodies():
            self.is_false(is_order, (SET_X, SET_Y), thing)
            self.is_false(is_order, (), thing)
        self.is_false(is_order, (SET_X, SET_Y), [SET_X, SET_Y])
        self.is_false(is_order, (SET_X, SET_Y), (SET_X, list(SET_Y)))
        self.is_false(is_order, (SET_X,), (("set", "x", True),))
        self.is_false(is_order, (("set", "x", 0),), (("set", "x", False),))


class IsFloor(OrdersCase):
    def changed(self, pair, number):
        return GREATEST | {pair: number}

    def test_the_greatest_floor(self):
        self.is_true(is_floor, *PAIR, GREATEST)
        self.is_true(is_floor, (), (), {((), ()): 0})

    def test_a_number_one_too_great(self):
        for pair in GREATEST:
            self.is_false(is_floor, *PAIR, self.changed(pair, GREATEST[pair] + 1))
            self.is_false(is_floor, *PAIR, self.changed(pair, 10 ** 19))
        self.is_false(is_floor, (), (), {((), ()): 1})

    def test_smaller_numbers(self):
        self.is_true(is_floor, *PAIR, self.changed(((), ()), 2))
        self.is_true(is_floor, *PAIR, self.changed(((), ()), 0))
        self.is_false(is_floor, *PAIR, self.changed(((0,), (0, 1)), 0))
        self.is_true(is_floor, *PAIR, {pair: max(0, GREATEST[pair] - 1) for pair in GREATEST})
        self.is_true(is_floor, *PAIR, dict.fromkeys(GREATEST, 0))
        self.is_false(is_floor, *PAIR, dict.fromkeys(GREATEST, 0) | {((0, 1), (0, 1)): 1})

    def test_a_step_of_two_equal_sets_bounds_the_numbers(self):
        right = {((), ()): 1, ((), (0,)): 1, ((0,), ()): 1, ((0,), (0,)): 0}
        self.is_true(is_floor, (SET_X,), (SET_X,), right)
        self.is_false(is_floor, (SET_X,), (SET_X,), right | {((), ()): 2})
        self.is_true(is_floor, (SET_X,), (SET_Y,), right | {((), ()): 2})

    def test_keys_too_few_or_too_many(self):
        for pair in GREATEST:
            fewer = {other: GREATEST[other] for other in GREATEST if other != pair}
            self.is_false(is_floor, *PAIR, fewer)
            for other in ((), ((),), ((), (), ()), ((0, 0), ()), ((1, 0), ()), ((2,), ()), ((), (2,)), ((-1,), ()),
                          None, 0, (0, 1), ("0", ""), (("0",), ()), ((), None), ((0, 1, 2), ())):
                self.is_false(is_floor, *PAIR, GREATEST | {other: 0})
                self.is_false(is_floor, *PAIR, fewer | {other: 0})
        self.is_false(is_floor, *PAIR, {})
        self.is_false(is_floor, (), (), {})

    def test_sets_that_are_not_closed_are_no_keys(self):
        chain = (SET_X, READ_X)
        table = self.call(best_orders, chain, ())[4]
        self.assertEqual(table, {((), ()): 2, ((0,), ()): 1, ((0, 1), ()): 0})
        self.is_false(is_floor, chain, (), table | {((1,), ()): 0})
        self.is_true(is_floor, chain, (), table)

    def test_booleans_in_keys(self):
        for pair, strange in ((((0,), ()), ((False,), ())), (((0, 1), (0, 1)), ((0, True), (0, 1))),
                              (((), (1,)), ((), (True,))), (((1,), (0,)), ((1,), (False,)))):
            fewer = {other: GREATEST[other] for other in GREATEST if other != pair}
            self.is_false(is_floor, *PAIR, fewer | {strange: GREATEST[pair]})

    def test_numbers_of_other_kinds(self):
        for pair in (((), ()), ((0, 1), (0, 1)), ((0,), (1,))):
            for number in (-1, True, False, None, "0", "", (), (0,), [], [0], {}, -10 ** 19):
                self.is_false(is_floor, *PAIR, self.changed(pair, number))

    def test_the_order_of_the_keys_means_nothing(self):
        self.is_true(is_floor, *PAIR, dict(reversed(GREATEST.items())))
        self.is_true(is_floor, *PAIR, {pair: GREATEST[pair] for pair in sorted(GREATEST)})

    def test_what_is_no_dict(self):
        for thing in STRANGE:
            self.is_false(is_floor, *PAIR, thing)
            self.is_false(is_floor, (), (), thing)
        self.is_false(is_floor, *PAIR, list(GREATEST.items()))

    def test_each_one_greater_is_too_great(self):
        source = random.Random(115)
        for _ in range(25):
            one, other = [random_sets(source, source.randrange(4)) for _ in range(2)]
            table = self.call(best_orders, one, other)[4]
            for pair in table:
                self.is_false(is_floor, one, other, table | {pair: table[pair] + 1})
                lower = copy.deepcopy(table)
                lower[pair] = 0
                self.assertIs(self.call(is_floor, one, other, lower), slow_is_floor(one, other, lower))


def slow_is_floor(one, other, table):
    """Tell whether numbers are nowhere greater than 1 plus the number behind a step."""
    for mine, theirs in table:
        for more, less in table:
            if set(mine) <= set(more) and set(theirs) <= set(less):
                first = [one[number] for number in more if number not in mine]
                second = [other[number] for number in less if number not in theirs]
                is_step = len(first) + len(second) == 1 or (len(first) == len(second) == 1 and first == second)
                if is_step and table[(mine, theirs)] > 1 + table[(more, less)]:
                    return False
    return table[(tuple(range(len(one))), tuple(range(len(other))))] == 0


class HowMany(OrdersCase):
    def test_just_below_3000_pairs_and_more(self):
        reads = ("set", "g", "a")
        # 64 closed sets of six that do not touch; 48 of those of which two touch.
        apart, two = letters(6), letters(5) + (reads,)
        self.assertEqual((len(slow_closed(apart)), len(slow_closed(two))), (64, 48))
        for one, other in ((apart, apart), (apart, two), (two, apart)):
            self.fails(TooMany, best_orders, one, other)
            for thing in (None, {}, GREATEST):
                self.fails(TooMany, is_floor, one, other, thing)
        for one, other in ((two, two), (apart, letters(5)), (letters(5), apart), (apart, two[1:])):
            found = self.call(best_orders, one, other)
            self.assertLess(len(found[4]), 3000)
            self.is_true(is_floor, one, other, found[4])
        self.assertEqual(self.call(best_orders, apart, letters(5)[::-1])[0], 6)
        self.is_true(is_order, apart, apart[::-1])


class Errors(OrdersCase):
    def test_what_is_no_body(self):
        for thing in wrong_bodies():
            self.fails(NoBodies, best_orders, thing, (SET_X,))
            self.fails(NoBodies, best_orders, (SET_X,), thing)
            self.fails(NoBodies, is_order, thing, (SET_X,))
            self.fails(NoBodies, is_order, thing, None)
            self.fails(NoBodies, is_floor, thing, (SET_X,), {})
            self.fails(NoBodies, is_floor, (SET_X,), thing, GREATEST)

    def test_the_order_of_the_errors(self):
        for thing in wrong_bodies()[::5]:
            self.fails(NoBodies, best_orders, thing, thing)
            self.fails(NoBodies, best_orders, letters(6), thing)
            self.fails(NoBodies, is_floor, thing, letters(6), None)
            self.fails(NoBodies, is_floor, letters(6), thing, None)

    def test_seven_sets(self):
        self.fails(NoBodies, best_orders, letters(7), ())
        self.fails(NoBodies, best_orders, (), (SET_X,) * 7)
        self.check((SET_X,) * 6, (SET_X,) * 6, 6)


if __name__ == "__main__":
    unittest.main()
