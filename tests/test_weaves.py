"""Which values are weaves of which bodies, and the plain weave."""

import random
import unittest

from samples import Case, EXAMPLE, LOOP, NO_KERNELS, SET_X, SET_Y, STRANGE, nested_term
from slow import all_weaves, many_in, plain_items, random_body, random_kernel, random_weave
from sideweave import weaves
from sideweave.errors import NoBodies, NoKernel
from sideweave.kernels import is_kernel
from sideweave.weaves import is_weave, plain_weave

ADD = ("set", "x", ("+", "x", "b"))
WOVEN = (("split", (0,), (("set", (0,), "x", 1), ("set", (0, 1), "x", ("+", "x", "b")))),)
WRONG_SIDES = (
    (), (0, 0), (1, 1), (1, 0), (0, 1, 1), (0, 2, 1), (-1,), (-1, 0), (0, 4), (4,), (100,), (False,), (True,),
    (False, 1), (0, True), (False, True), [0], [0, 1], None, 0, 1, True, "0", "", ("0",), ((0,),), {}, {0: 0}, (None,),
    (0, None), (0, "1"), (65536,), (0, 65536), (10 ** 19,), (-10 ** 19,),
)
NO_ITEMS = STRANGE + (
    ("set", (0,)), ("set", (0,), "x"), ("set", (0,), "x", 1, 1), ("set", "x", 1), ("set", "x", 1, (0,)),
    ("sets", (0,), "x", 1), ("Set", (0,), "x", 1), (None, (0,), "x", 1), (("set",), (0,), "x", 1),
    (["set"], (0,), "x", 1), ((0,), "set", "x", 1), ["set", (0,), "x", 1], ("set", [0], "x", 1),
    ("set", (0,), "y", 1), ("set", (0,), "x", 2), ("set", (0,), "x", True), ("set", (0,), "x", "1"),
    ("set", (0,), "x", (1,)), ("set", (0,), 1, "x"), ("set", (0,), ("x",), 1), ("set", (0,), None, 1),
    ("set", (0,), "x", None), ("set", (0,), "x", [1]), ("test", (0,), "x", 1), ("if", (0,), ()), ("while", (0,), ()),
    ("split", (0,), ()), ("loop", (0,), ()), ("split", (0,), ((),)), ("join", (0,), 1), ("skip", (0,), 1),
)


def branch(first, second, term="a"):
    return ("if", term, first, second)


def item(sides, statement=SET_X):
    """Return the set item for a set on these sides."""
    return ("set", sides) + statement[1:]


class WeaveCase(Case):
    def is_right(self, bodies, thing):
        self.is_true(is_weave, bodies, thing)

    def is_wrong(self, bodies, thing):
        self.is_false(is_weave, bodies, thing)

    def wrap(self, bodies, thing):
        """Return bodies and a value that is a weave of them if, and only if, the one is a weave of two bodies."""
        first, second = bodies
        return [((first, second), thing), ((first, second, ()), thing),
                (((branch(first, second),),), (("split", (0,), thing),)),
                (((SET_X, ("while", "b", (branch(first, second),))),),
                 (item((0,)), ("loop", (0,), (("split", (0,), thing),))))]


class Sets(WeaveCase):
    def test_interface(self):
        self.assertEqual((is_weave.__module__, plain_weave.__module__), (weaves.__name__,) * 2)

    def test_empty_bodies(self):
        for many in range(1, 5):
            self.is_right(((),) * many, ())
            for thing in (None, [], {}, "", 0, False, ((),), (item((0,)),), (("split", (0,), ()),)):
                self.is_wrong(((),) * many, thing)

    def test_one_body(self):
        bodies = ((SET_X, SET_Y, SET_X),)
        one, other = item((0,)), item((0,), SET_Y)
        self.is_right(bodies, (one, other, one))
        for wrong in ((), (one,), (one, other), (one, one, other), (other, one, one), (one, other, one, one),
                      (one, one, other, one), (one, other, other, one), (one, other, one, other), (other, one)):
            self.is_wrong(bodies, wrong)

    def test_two_bodies(self):
        bodies = ((SET_X, ADD), (ADD,))
        one, add = item((0,)), ADD
        for right in ((one, item((0, 1), add)), (one, item((0,), add), item((1,), add)),
                      (one, item((1,), add), item((0,), add)), (item((1,), add), one, item((0,), add))):
            for several, thing in self.wrap(bodies, right):
                self.is_right(several, thing)
        for wrong in ((item((0, 1)), item((0,), add)), (item((0, 1), add), one), (one, item((0,), add)),
                      (one, item((1,), add)), (item((0, 1), add),), (one, item((0, 1), add), item((1,), add)),
                      (one, one, item((1,), add)), (item((1,)), item((0, 1), add)), (one, item((0, 1), ADD + (1,)))):
            for several, thing in self.wrap(bodies, wrong):
                self.is_wrong(several, thing)

    def test_three_and_four_bodies(self):
        self.is_right(((SET_X,),) * 3, (item((0, 1, 2)),))
        self.is_right(((SET_X,),) * 3, (item((1,)), item((0, 2))))
        self.is_right(((SET_X,),) * 4, (item((0, 1, 2, 3)),))
        self.is_right(((SET_X,), (SET_Y,), (SET_X,), (SET_Y,)), (item((1, 3), SET_Y), item((0, 2))))
        self.is_right(((SET_X, SET_Y), (SET_Y, SET_X), (SET_X,), ()), (item((0, 2)), item((0, 1), SET_Y), item((1,))))
        self.is_wrong(((SET_X,), (SET_Y,), (SET_X,), (SET_Y,)), (item((0, 1, 2, 3)),))
        self.is_wrong(((SET_X,),) * 4, (item((0, 1, 2)),))
        self.is_wrong(((SET_X,),) * 3, (item((0, 1, 2, 3)),))
        self.is_wrong(((SET_X,), (SET_X,), ()), (item((0, 1, 2)),))

    def test_a_side_that_is_done(self):
        self.is_wrong(((SET_X,),), (item((0,)), item((0,))))
        self.is_wrong(((), (SET_X,)), (item((0, 1)),))
        self.is_wrong(((), (SET_X,)), (item((0,)),))
        self.is_right(((), (SET_X,)), (item((1,)),))

    def test_terms_and_names_must_be_the_same(self):
        deep = ("set", "x", nested_term(4))
        self.is_right(((deep,),), (item((0,), deep),))
        for term in (nested_term(3), nested_term(5), nested_term(4, "-"), list(nested_term(4)), "a", None):
            self.is_wrong(((deep,),), (("set", (0,), "x", term),))
        self.is_wrong(((("set", "x", ("+", "x", 1)),),), (("set", (0,), "x", ("+", "x", True)),))
        self.is_wrong(((("set", "x", 0),),), (("set", (0,), "x", False),))
        self.is_wrong(((("set", "x", "y"),),), (("set", (0,), "y", "x"),))
        self.is_wrong(((("set", "x", ("+", "a", "b")),),), (("set", (0,), "x", ("+", "b", "a")),))

    def test_wrong_sides(self):
        for sides in WRONG_SIDES:
            self.is_wrong(((SET_X,), (SET_X,), (SET_X,), (SET_X,)), (item(sides), item((2, 3))))
            for bodies in (((SET_X,),), ((SET_X,), (SET_X,)), ((SET_X,), (SET_X,), ())):
                self.is_wrong(bodies, (item(sides),))
                if sides != ():
                    self.is_wrong(bodies, (item(sides), item((0,))))
            if sides != ():
                self.is_wrong(((SET_X,), (SET_X,)), (item((0, 1)), item(sides)))

    def test_wrong_items(self):
        for thing in NO_ITEMS:
            for several, inner in self.wrap(((SET_X,), (SET_X,)), (thing, item((1,)))):
                self.is_wrong(several, inner)
            for several, inner in self.wrap(((SET_X,), (SET_X,)), (item((0, 1)), thing)):
                self.is_wrong(several, inner)
            self.is_wrong(((SET_X,),), (thing,))
            self.is_wrong(((SET_X,),), thing if thing != () else None)

    def test_lists_where_tuples_are_asked(self):
        self.is_wrong(((SET_X,),), [item((0,))])
        self.is_wrong(((SET_X,),), (list(item((0,))),))
        self.is_wrong(((SET_X,),), (item([0]),))
        self.is_wrong(((),), [])


class SplitsAndLoops(WeaveCase):
    def test_the_example(self):
        self.is_right((EXAMPLE[1],), WOVEN)
        self.is_wrong((EXAMPLE[1], ()), ())
        self.is_right((EXAMPLE[1], ()), WOVEN)
        self.is_wrong((EXAMPLE[1],), WOVEN[0])
        self.is_wrong((EXAMPLE[1],), WOVEN + WOVEN)

    def test_splits_of_one_side(self):
        bodies = ((branch((SET_X,), (SET_Y,)),),)
        for inner in ((item((0,)), item((1,), SET_Y)), (item((1,), SET_Y), item((0,)))):
            self.is_right(bodies, (("split", (0,), inner),))
            self.is_wrong(bodies, (("loop", (0,), inner),))
            self.is_wrong(bodies, (("if", (0,), inner),))
            self.is_wrong(bodies, (("split", (0,), inner, ()),))
            self.is_wrong(bodies, (("split", (0,)),))
            self.is_wrong(bodies, (("split", (0,), list(inner)),))
            self.is_wrong(bodies, (["split", (0,), inner],))
            self.is_wrong(bodies, inner)
        for inner in ((), (item((0,)),), (item((0,), SET_Y), item((1,))), (item((1,)), item((0,), SET_Y)),
                      (item((0,)), item((2,), SET_Y)), (item((0,)), item((1,), SET_Y), item((0,)))):
            self.is_wrong(bodies, (("split", (0,), inner),))

    def test_splits_with_empty_bodies(self):
        self.is_right(((branch((), ()),),), (("split", (0,), ()),))
        self.is_wrong(((branch((), ()),),), (("split", (0,), (("split", (0,), ()),)),))
        self.is_right(((branch((), (SET_X,)),),), (("split", (0,), (item((1,)),)),))
        self.is_wrong(((branch((), (SET_X,)),),), (("split", (0,), (item((0,)),)),))

    def test_splits_of_two_sides_have_four_sides_within(self):
        bodies = ((branch((SET_X,), (SET_Y,)),), (branch((SET_Y,), (SET_X, ADD), "b"),))
        for inner in ((item((0, 3)), item((1, 2), SET_Y), item((3,), ADD)),
                      (item((3,)), item((3,), ADD), item((2,), SET_Y), item((1,), SET_Y), item((0,))),
                      (item((1, 2), SET_Y), item((0, 3)), item((3,), ADD))):
            self.is_right(bodies, (("split", (0, 1), inner),))
            self.is_wrong(bodies, (("split", (0,), inner),))
            self.is_wrong(bodies, (("split", (1, 0), inner),))
            self.is_wrong(bodies, (("split", (0, 1), inner + (item((4,)),)),))
        # With the first bodies ahead of the second ones, the sides would be others.
        self.is_wrong(bodies, (("split", (0, 1), (item((0, 3)), item((1, 2)), item((3,), ADD))),))
        self.is_wrong(bodies, (("split", (0, 1), (item((0,)), item((1,), SET_Y), item((2,)), item((3,), ADD))),))
        self.is_wrong(bodies, (("split", (0, 1), (item((0, 2)), item((1, 3), SET_Y), item((3,), ADD))),))

    def test_sides_of_a_split_need_not_have_the_same_test_nor_be_neighbours(self):
        bodies = ((branch((SET_X,), ()),), (SET_Y,), (branch((), (SET_X,), 5),))
        split = ("split", (0, 2), (item((0, 3)),))
        self.is_right(bodies, (split, item((1,), SET_Y)))
        self.is_right(bodies, (item((1,), SET_Y), split))
        self.is_wrong(bodies, (("split", (0, 1), (item((0, 3)),)), item((1,), SET_Y)))
        self.is_wrong(bodies, (("split", (0, 1, 2), (item((0, 5)),)), item((1,), SET_Y)))

    def test_splits_of_four_sides(self):
        bodies = tuple((branch((SET_X,), (SET_Y,), side),) for side in range(4))
        inner = (item((0, 2, 4, 6)), item((1, 3, 5, 7), SET_Y))
        self.is_right(bodies, (("split", (0, 1, 2, 3), inner),))
        self.is_wrong(bodies, (("split", (0, 1, 2, 3), inner + (item((8,)),)),))
        self.is_wrong(bodies, (("split", (0, 1, 2, 3), (item((0, 1, 2, 3)), item((4, 5, 6, 7), SET_Y))),))
        self.is_right(bodies, (("split", (1, 2), inner[:0] + (item((0, 2)), item((1, 3), SET_Y))),
                               ("split", (0, 3), (item((1, 3), SET_Y), item((0, 2))))))

    def test_splits_in_splits(self):
        one = branch((branch((SET_X,), ()),), (branch((), (SET_X,)), SET_Y))
        inner = (("split", (0, 1), (item((0, 3)),)), item((1,), SET_Y))
        self.is_right(((one,),), (("split", (0,), inner),))
        both = (("split", (0, 1, 2, 3), (item((0, 3, 4, 7)),)), item((1, 3), SET_Y))
        self.is_right(((one,), (one,)), (("split", (0, 1), both),))
        self.is_wrong(((one,), (one,)), (("split", (0, 1), inner),))
        self.is_wrong(((one,), (one,)), (("split", (0, 1), both[::-1]),))

    def test_loops_of_one_side_and_of_several(self):
        one, other = ("while", "a", (SET_X, SET_Y)), ("while", "b", (SET_Y,))
        apart = (("loop", (0,), (item((0,)), item((0,), SET_Y))), ("loop", (1,), (item((0,), SET_Y),)))
        together = (("loop", (0, 1), (item((0,)), item((0, 1), SET_Y))),)
        for right in (apart, apart[::-1], together):
            for several, thing in self.wrap(((one,), (other,)), right):
                self.is_right(several, thing)
        for wrong in (apart[:1], apart + together, together * 2, (("split",) + together[0][1:],),
                      (("loop", (0, 1), (item((0, 1)), item((0,), SET_Y))),), (("loop", (0,), ()), apart[1]),
                      (("loop", (0,), (item((0,)), item((1,), SET_Y))), apart[1]), (("loop", (0, 1)),),
                      (("loop", (0, 1), list(together[0][2])),), (("while",) + together[0][1:],)):
            self.is_wrong(((one,), (other,)), wrong)

    def test_loops_with_empty_bodies(self):
        self.is_right(((("while", 1, ()),),), (("loop", (0,), ()),))
        self.is_wrong(((("while", 1, ()),),), ())
        self.is_wrong(((("while", 1, ()),),), (("loop", (0,), ((),)),))

    def test_an_if_is_not_woven_with_a_while(self):
        bodies = ((branch((SET_X,), ()),), (("while", "a", (SET_X,)),))
        self.is_wrong(bodies, (("split", (0, 1), (item((0, 2)),)),))
        self.is_wrong(bodies, (("loop", (0, 1), (item((0, 1)),)),))
        self.is_right(bodies, (("split", (0,), (item((0,)),)), ("loop", (1,), (item((0,)),))))

    def test_wrong_sides_of_splits_and_loops(self):
        split, loop = (branch((), ()),), (("while", "a", ()),)
        for sides in WRONG_SIDES:
            for bodies, word in (((split, split), "split"), ((loop, loop), "loop")):
                self.is_wrong(bodies, ((word, sides, ()),))
                self.is_wrong(bodies, ((word, sides, ()), (word, (0,), ())))
                self.is_wrong(bodies, ((word, (0, 1), ()), (word, sides, ())))

    def test_wrong_things_deep_within(self):
        inner = (branch((SET_X,), (SET_X,)),)
        body = (("while", "a", (SET_Y, branch(inner, ()))),)

        def around(thing):
            return (("loop", (0,), (item((0,), SET_Y), ("split", (0,), (("split", (0,), thing),)))),)

        self.is_right((body,), around((item((0, 1)),)))
        self.is_right((body,), around((item((1,)), item((0,)))))
        for thing in NO_ITEMS:
            self.is_wrong((body,), around((thing, item((1,)))))
            self.is_wrong((body,), around((item((0, 1)), thing)))
            self.is_wrong((body,), around(thing if thing != () else None))
        for sides in WRONG_SIDES:
            self.is_wrong((body,), around((item(sides),)))

    def test_long_and_deep_values(self):
        thing = ()
        for _ in range(36):
            thing = (("split", (0,), thing),)
        self.is_wrong(((branch((), ()),),), thing)
        self.is_wrong(((SET_X,),), (item((0,)),) * 2000)
        self.is_wrong(((SET_X,) * 24,) * 4, (item((0, 1, 2, 3)),) * 25)
        self.is_right(((SET_X,) * 24,) * 4, (item((0, 1, 2, 3)),) * 24)

    def test_bodies_need_not_be_of_one_kernel(self):
        body = (SET_X,) * 24
        self.assertTrue(is_kernel((("x",), body)))
        self.is_right((body, body), (item((0,)),) * 24 + (item((1,)),) * 24)


class AgainstAnotherWay(WeaveCase):
    def test_random_weaves(self):
        source = random.Random(21)
        for _ in range(300):
            bodies = tuple(random_body(source, source.randrange(9)) for _ in range(source.randrange(1, 5)))
            self.is_right(bodies, random_weave(source, bodies))

    def test_what_is_told_of_changed_weaves(self):
        source = random.Random(22)
        tried = [0, 0]
        while min(tried) < 60:
            bodies = tuple(random_body(source, source.randrange(1, 4)) for _ in range(source.randrange(1, 3)))
            if sum(many_in(body) for body in bodies) > 5:
                continue
            known = {repr(weave) for weave in all_weaves(bodies)}
            for _ in range(6):
                thing = changed(source, random_weave(source, bodies))
                self.assertIs(self.call(is_weave, bodies, thing), repr(thing) in known, (bodies, thing))
                tried[repr(thing) in known] += 1


def changed(source, weave):
    """Return a weave with a small change somewhere, that may be one of the same bodies."""
    items = list(weave)
    at = source.randrange(len(items) + 1)
    kind = source.randrange(6)
    if kind == 0:
        items.insert(at, ("set", (0,), "x", 1))
    elif at == len(items):
        return weave[::-1]
    elif kind == 1:
        del items[at]
    elif kind == 2:
        items[at] = items[source.randrange(len(items))]
    elif kind == 3:
        items[at] = items[at][:1] + (source.choice(((0,), (1,), (0, 1))),) + items[at][2:]
    elif kind == 4:
        items[at], items[0] = items[0], items[at]
    elif items[at][0] != "set":
        items[at] = items[at][:2] + (changed(source, items[at][2]),)
    return tuple(items)


class PlainWeaves(WeaveCase):
    def check(self, body, weave):
        """Check the plain weave of a body."""
        kernel = (("x",), body)
        self.assertEqual(self.call(plain_weave, kernel), weave)
        self.is_right((body,), weave)

    def test_sets(self):
        self.check((), ())
        self.check((SET_X, SET_Y, SET_X), (item((0,)), item((0,), SET_Y), item((0,))))

    def test_ifs(self):
        self.check((branch((), ()),), (("split", (0,), ()),))
        self.check((branch((SET_X, ADD), (SET_Y,)),),
                   (("split", (0,), (item((0,)), item((0,), ADD), item((1,), SET_Y))),))
        self.check((branch((), (SET_X,)), SET_Y), (("split", (0,), (item((1,)),)), item((0,), SET_Y)))
        self.check(EXAMPLE[1], (("split", (0,), (item((0,)), item((0,), ADD), item((1,), ADD))),))

    def test_whiles(self):
        self.check((("while", 1, ()),), (("loop", (0,), ()),))
        self.check((SET_X,) + LOOP[1], (item((0,)), ("loop", (0,), (item((0,), ("set", "i", ("+", "i", 1))),))))

    def test_ifs_and_whiles_within_one_another(self):
        inner = (branch((SET_X,), (("while", "b", (SET_Y, SET_X)),)), SET_Y)
        within = ("split", (0,), (item((0,)), ("loop", (1,), (item((0,), SET_Y), item((0,))))))
        self.check(inner, (within, item((0,), SET_Y)))
        self.check((branch(inner, (SET_X,)),), (("split", (0,), (within, item((0,), SET_Y), item((1,)))),))
        self.check((("while", "a", inner),), (("loop", (0,), (within, item((0,), SET_Y))),))
        second = ("split", (1,)) + within[2:]
        self.check((branch((SET_X,), inner),), (("split", (0,), (item((0,)), second, item((1,), SET_Y))),))

    def test_against_another_way(self):
        source = random.Random(23)
        for _ in range(200):
            kernel = random_kernel(source, source.randrange(25))
            self.check(kernel[1], plain_items((kernel[1],)))

    def test_what_is_no_kernel(self):
        for thing in NO_KERNELS:
            self.fails(NoKernel, plain_weave, thing)


class Errors(Case):
    def test_how_many_bodies(self):
        for many in (0, 5, 6, 100):
            for thing in ((), (item((0,)),), None):
                self.fails(NoBodies, is_weave, ((),) * many, thing)
                self.fails(NoBodies, is_weave, ((SET_X,),) * many, thing)
        for many in (1, 2, 3, 4):
            self.is_false(is_weave, ((SET_X,),) * many, ())

    def test_what_is_no_tuple_of_bodies(self):
        wrong = [thing for thing in STRANGE if thing != ()] + [
            [(SET_X,)], [()], {(): ()}, SET_X, (SET_X,), EXAMPLE, "set", ((SET_X,), None), (None, ()), ((), [SET_X]),
            ([],), ((), ()) + ((SET_X, None),), ((("set", "x", True),),), ((SET_X,) * 25,), ((), (), (), (SET_X,) * 25),
            ((("if", "a", ()),),), ((("while", "a", [SET_X]),),), (SET_X, ()),
            ((("if", 1, (("if", 1, (("if", 1, (), ()),), ()),), ()),),), ((("set", "x", nested_term(5)),),),
        ]
        for bodies in wrong:
            for thing in ((), (item((0,)),), WOVEN, None, [], 5):
                self.fails(NoBodies, is_weave, bodies, thing)

    def test_any_value_may_be_asked_about(self):
        for thing in STRANGE + WRONG_SIDES + NO_ITEMS:
            self.is_false(is_weave, ((SET_X,),), thing)
            self.is_false(is_weave, ((SET_X,),), (thing, thing))


if __name__ == "__main__":
    unittest.main()
