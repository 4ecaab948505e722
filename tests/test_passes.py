"""The passes fold, drop, same and pull, and the registers that are live."""

import random
import unittest

from samples import EXAMPLE, LOOP, NO_KERNELS, RunCase, SET_X, SET_Y, nested_term
from slow import many_in, random_body, random_kernel, random_launch, random_term, slow_lane
from sideweave import passes
from sideweave.alone import end, trace
from sideweave.errors import NoKernel, TooMany
from sideweave.fewest import fewest
from sideweave.kernels import is_kernel
from sideweave.passes import drop, fold, live, pull, same
from sideweave.plain import run_plain
from sideweave.terms import names_of, value

PASSES = (fold, drop, same, pull)
SET_Z = ("set", "z", 3)
ADD = ("set", "x", ("+", "x", 1))
DOWN = ("set", "p", ("-", "p", 1))


def flow(body, behind, nodes):
    """Add the nodes of a body, each as (set name or None, read names, next nodes); return the first one's number."""
    first = behind
    for statement in reversed(body):
        first = flow_of(statement, first, nodes)
    return first


def flow_of(statement, behind, nodes):
    number = len(nodes)
    if statement[0] == "set":
        nodes.append((statement[1], names_of(statement[2]), [behind]))
        return number
    nodes.append((None, names_of(statement[1]), [behind] if statement[0] == "while" else []))
    after = number if statement[0] == "while" else behind
    nodes[number][2].extend([flow(part, after, nodes) for part in statement[2:]])
    return number


def slow_live(outputs, body):
    """Return the set of the names live before a body."""
    nodes = [(None, outputs, [])]
    return names_read_from(nodes, flow(body, 0, nodes))


def names_read_from(nodes, first):
    """Return the set of the names that some path from a node on reads before it sets them."""
    found = set()
    for name in {name for node in nodes for name in node[1]}:
        waiting, seen = [first], set()
        while waiting and name not in found:
            here = waiting.pop()
            if name in nodes[here][1]:
                found.add(name)
            if here not in seen and nodes[here][0] != name:
                waiting += nodes[here][2]
            seen.add(here)
    return found


def parts(body, path=()):
    """Return the list of all statements of a body, each as (path, statement)."""
    found = []
    for at, statement in enumerate(body):
        found.append((path + (at,), statement))
        if statement[0] != "set":
            for number, inner in enumerate(statement[2:]):
                found += parts(inner, path + (at, number))
    return found


def with_part(body, path, statements):
    """Return a body with these statements in place of the one at a path."""
    at = path[0]
    if len(path) == 1:
        return body[:at] + tuple(statements) + body[at + 1:]
    inner = list(body[at][2:])
    inner[path[1]] = with_part(inner[path[1]], path[2:], statements)
    return body[:at] + (body[at][:2] + tuple(inner),) + body[at + 1:]


def live_behind(outputs, body, path):
    """Return the set of the names live behind a statement."""
    nodes = [(None, outputs, [])]
    # A set to a name that nothing reads, put there, shows which place it is.
    flow(with_part(body, path, [dict(parts(body))[path], ("set", "mark", 0)]), 0, nodes)
    here = [at for at, node in enumerate(nodes) if node[0] == "mark"][0]
    return names_read_from(nodes, here)


def slow_drop(source, kernel):
    """Leave out one statement after the other, in any order, until none can be left out."""
    outputs, body = kernel
    while True:
        able = [path for path, statement in parts(body)
                if (statement[0] == "set" and statement[1] not in live_behind(outputs, body, path))
                or statement[0] == "if" and statement[2:] == ((), ())]
        if not able:
            return outputs, body
        body = with_part(body, source.choice(able), [])


def slow_same(source, kernel):
    outputs, body = kernel
    while True:
        able = [(path, part) for path, part in parts(body) if part[0] == "if" and part[2] == part[3]]
        if not able:
            return outputs, body
        path, part = source.choice(able)
        body = with_part(body, path, part[2])


def slow_fold(source, kernel):
    outputs, body = kernel
    while True:
        able = []
        for path, part in parts(body):
            at = 2 if part[0] == "set" else 1
            able += [(path, [part[:at] + (term,) + part[at + 1:]]) for term in terms_behind(part[at])]
            if part[0] == "if" and isinstance(part[1], int):
                able.append((path, part[2] if part[1] else part[3]))
            if part[0] == "while" and part[1] == 0:
                able.append((path, ()))
        if not able:
            return outputs, body
        body = with_part(body, *source.choice(able))


def terms_behind(term):
    """Return all terms that one operator between two numbers, worked out, makes of a term."""
    if not isinstance(term, tuple):
        return []
    if isinstance(term[1], int) and isinstance(term[2], int):
        return [value(term, {})]
    found = [(term[0], other, term[2]) for other in terms_behind(term[1])]
    return found + [(term[0], term[1], other) for other in terms_behind(term[2])]


def slow_pull(kernel):
    """Pull set by set; the ifs that stand deepest come first."""
    outputs, body = kernel
    ifs = [path for path, part in parts(body) if part[0] == "if"]
    # The later ones of a body come first, so that the places of the earlier ones stay what they are.
    for path in sorted(ifs, key=lambda path: (-len(path), [-at for at in path])):
        part = dict(parts(body))[path]
        one, other, front, back = list(part[2]), list(part[3]), [], []
        while one and other and one[0] == other[0] and one[0][0] == "set" and one[0][1] not in names_of(part[1]):
            front.append(one.pop(0))
            other.pop(0)
        while one and other and one[-1] == other[-1] and one[-1][0] == "set":
            back.insert(0, one.pop())
            other.pop()
        body = with_part(body, path, front + [("if", part[1], tuple(one), tuple(other))] + back)
    return outputs, body


def with_terms(source, body):
    """Return a body in which some terms are others, often with numbers alone."""
    found = []
    for statement in body:
        at = 2 if statement[0] == "set" else 1
        rest = statement[at + 1:]
        term = statement[at]
        if source.random() < (0.25 if statement[0] == "while" else 0.5):
            term = random_term(source, ("a", "x") if source.random() < 0.4 else (0, 1, 7), source.randrange(4))
        found.append(statement[:at] + (term,) + tuple(with_terms(source, part) for part in rest))
    return tuple(found)


def twins(source, body):
    """Return a body in which many ifs have bodies with the same sets at first or at last."""
    found = []
    for statement in body:
        if statement[0] == "if":
            one, other = [twins(source, part) for part in statement[2:]]
            if source.random() < 0.3:
                one = other
            room = 4 if many_in(body) < 12 else 1
            before = tuple(source.choice((SET_X, ADD, SET_Y)) for _ in range(source.randrange(room)))
            behind = tuple(source.choice((SET_X, ADD, SET_Y)) for _ in range(source.randrange(room)))
            statement = statement[:2] + (before + one + behind, before + other + behind)
        found.append(statement)
    return tuple(found)


def drawn_kernels(seed, many):
    """Return drawn kernels with lanes for them."""
    source = random.Random(seed)
    found = []
    while len(found) < many:
        outputs, body = random_kernel(source, source.randrange(1, 25))
        if source.random() < 0.5:
            body = with_terms(source, body)
        if source.random() < 0.5:
            body = twins(source, body)
        if is_kernel((outputs, body)):
            found.append(((outputs, body), random_launch(source)))
    return found


class PassCase(RunCase):
    def turns(self, change, body, answer, outputs=("x",)):
        """Check what a pass makes of a body, and that it is so when done twice."""
        found = self.call(change, (outputs, body))
        self.assertEqual(found, (outputs, answer))
        self.is_true(is_kernel, found)
        self.assertEqual(self.call(change, found), found)
        # Within a while a pass does the same; but other registers are live there.
        inside = (outputs, (("while", "w", body),))
        if change != drop and is_kernel(inside):
            self.assertEqual(self.call(change, inside), (outputs, (("while", "w", answer),)))

    def stays_as_it_is(self, change, body, outputs=("x",)):
        self.turns(change, body, body, outputs)


class Fold(PassCase):
    def folds(self, term, answer):
        self.turns(fold, (("set", "x", term),), (("set", "x", answer),))
        if isinstance(answer, int):
            self.turns(fold, (("if", term, (SET_X,), (SET_Y,)),), (SET_X,) if answer else (SET_Y,))
        else:
            self.turns(fold, (("if", term, (SET_X,), (SET_Y,)),), (("if", answer, (SET_X,), (SET_Y,)),))
        if answer != 0:
            self.turns(fold, (("while", term, (SET_X,)),), (("while", answer, (SET_X,)),))
        else:
            self.turns(fold, (("while", term, (SET_X,)),), ())

    def test_interface(self):
        self.assertEqual({function.__module__ for function in PASSES + (live,)}, {passes.__name__})

    def test_terms_without_operators(self):
        for term in (0, 1, 65535, "a", "x", "while"):
            self.folds(term, term)

    def test_each_operator(self):
        for sign, one, other, answer in (("+", 2, 3, 5), ("+", 65535, 1, 0), ("+", 65535, 65535, 65534), ("-", 5, 3, 2),
                                         ("-", 3, 5, 65534), ("-", 4, 4, 0), ("*", 6, 7, 42), ("*", 256, 256, 0),
                                         ("*", 65535, 65535, 1), ("<", 1, 2, 1), ("<", 2, 2, 0), ("<", 3, 2, 0),
                                         ("=", 2, 2, 1), ("=", 2, 3, 0)):
            self.folds((sign, one, other), answer)

    def test_operators_with_names_stay(self):
        for sign in "+-*<=":
            for term in ((sign, "a", 0), (sign, 0, "a"), (sign, "a", "a"), (sign, "a", "b"), (sign, 1, "a")):
                self.folds(term, term)

    def test_from_the_inside(self):
        self.folds(("+", ("*", 2, 3), ("-", 9, 4)), 11)
        self.folds(("+", ("*", 2, 3), "a"), ("+", 6, "a"))
        self.folds(("=", "a", ("<", 1, ("+", 1, 1))), ("=", "a", 1))
        self.folds(("+", ("+", 1, "a"), 1), ("+", ("+", 1, "a"), 1))
        self.folds(("-", ("-", 1, 1), ("+", "a", ("*", 3, ("-", 0, 1)))), ("-", 0, ("+", "a", 65533)))
        self.folds(("+", ("+", ("+", ("+", 1, 1), 1), 1), 1), 5)
        self.folds(nested_term(4), nested_term(4))

    def test_ifs_with_numbers(self):
        self.turns(fold, (SET_Z, ("if", 0, (SET_X,), (SET_Y, SET_Y)), SET_Z), (SET_Z, SET_Y, SET_Y, SET_Z))
        self.turns(fold, (SET_Z, ("if", 65535, (SET_X, SET_X), (SET_Y,)), SET_Z), (SET_Z, SET_X, SET_X, SET_Z))
        self.turns(fold, (("if", 1, (), (SET_Y,)),), ())
        self.turns(fold, (("if", 0, (SET_X,), ()),), ())

    def test_bodies_are_folded(self):
        two = ("set", "x", ("+", 1, 1))
        folded = ("set", "x", 2)
        self.turns(fold, (("if", "a", (two,), (two, two)),), (("if", "a", (folded,), (folded, folded)),))
        self.turns(fold, (("while", "a", (two, ("if", ("<", 0, 1), (two,), ()))),), (("while", "a", (folded, folded)),))
        self.turns(fold, (("if", 1, (("if", ("-", 1, 1), (SET_X,), (two, ("while", 0, (SET_X,)))),), ()),), (folded,))

    def test_whiles_with_numbers(self):
        self.turns(fold, (SET_X, ("while", 0, (SET_X, SET_Y)), SET_Y), (SET_X, SET_Y))
        self.turns(fold, (("while", ("=", 1, 2), ()),), ())
        self.stays_as_it_is(fold, (("while", 1, (SET_X,)),))
        self.stays_as_it_is(fold, (("while", 65535, ()),))
        self.turns(fold, (("while", ("+", 1, 1), (("set", "x", ("*", 0, 5)),)),), (("while", 2, (("set", "x", 0),)),))

    def test_what_a_name_is_set_to_means_nothing(self):
        self.stays_as_it_is(fold, (SET_X, ("if", "x", (SET_Y,), ()), ("set", "y", ("+", "x", 1))))

    def test_other_kernels(self):
        self.stays_as_it_is(fold, ())
        for kernel in (EXAMPLE, LOOP):
            self.assertEqual(self.call(fold, kernel), kernel)


class Drop(PassCase):
    def test_sets_that_nothing_reads(self):
        self.turns(drop, (SET_Y,), ())
        self.turns(drop, (SET_X, SET_Y, ADD, SET_Z), (SET_X, ADD))
        self.turns(drop, (SET_X, SET_X), (SET_X,))
        self.turns(drop, (SET_X, ("set", "x", 2)), (("set", "x", 2),))
        self.turns(drop, (("set", "y", "x"), ("set", "z", "y")), ())

    def test_sets_that_are_read(self):
        self.stays_as_it_is(drop, (SET_Y, ("set", "x", "y")))
        self.stays_as_it_is(drop, (SET_Y, ("if", "y", (SET_X,), ())))
        self.stays_as_it_is(drop, (SET_Y, ("while", "y", ())))
        self.stays_as_it_is(drop, (SET_X, ADD))
        self.turns(drop, (SET_Y, SET_Y, ("set", "x", ("+", 1, "y")), SET_Y), (SET_Y, ("set", "x", ("+", 1, "y"))))

    def test_outputs(self):
        self.stays_as_it_is(drop, (SET_X, SET_Y), ("x", "y"))
        self.turns(drop, (SET_X, SET_Y), (SET_Y,), ("y",))
        self.turns(drop, (SET_X, SET_Y), (), ("z",))

    def test_a_set_to_its_own_register_stays_if_it_is_live(self):
        self.stays_as_it_is(drop, (("set", "x", "x"),))
        self.turns(drop, (("set", "y", "y"),), ())

    def test_sets_in_branches(self):
        # In one body y is set anew, in the other one it is read.
        self.stays_as_it_is(drop, (SET_Y, ("if", "a", (SET_Y,), ()), ("set", "x", "y")))
        self.turns(drop, (SET_Y, ("if", "a", (SET_Y,), (("set", "y", 5),)), ("set", "x", "y")),
                   (("if", "a", (SET_Y,), (("set", "y", 5),)), ("set", "x", "y")))
        self.turns(drop, (("if", "a", (SET_Y, SET_X), (SET_Z,)),), (("if", "a", (SET_X,), ()),))
        self.turns(drop, (SET_X, ("if", "x", (SET_X,), (SET_X,))), (SET_X, ("if", "x", (SET_X,), (SET_X,))))

    def test_sets_in_loops(self):
        # What the next turn, its test or what stands behind the while reads is live at the end of the body.
        self.stays_as_it_is(drop, (("while", "p", (("set", "x", "y"), SET_Y, DOWN)),))
        self.stays_as_it_is(drop, (("while", "p", (DOWN,)),))
        self.stays_as_it_is(drop, (("while", "p", (SET_X, DOWN)),))
        self.turns(drop, (("while", "p", (SET_Y, DOWN)),), (("while", "p", (DOWN,)),))
        self.turns(drop, (("while", "p", (SET_Y, ("set", "x", "y"), SET_Y, DOWN)),),
                   (("while", "p", (SET_Y, ("set", "x", "y"), DOWN)),))
        # A register that nothing but its own set reads is live in each turn all the same.
        self.stays_as_it_is(drop, (("while", "p", (("set", "y", ("+", "y", 1)), DOWN)),))
        self.stays_as_it_is(drop, (SET_X, ("while", "p", (SET_X, DOWN))))

    def test_whiles_stay(self):
        self.stays_as_it_is(drop, (("while", "a", ()),))
        self.stays_as_it_is(drop, (("while", 0, ()),))
        self.turns(drop, (("while", 1, (SET_Y,)),), (("while", 1, ()),))
        self.turns(drop, (("while", 0, (SET_Y, ("if", "a", (), ()))),), (("while", 0, ()),))

    def test_paths_go_past_a_while_with_a_number(self):
        self.stays_as_it_is(drop, (SET_X, ("while", 1, (("set", "x", 5),))))
        self.stays_as_it_is(drop, (SET_X, ("if", 1, (("set", "x", 5),), ())))

    def test_ifs_that_become_empty(self):
        self.turns(drop, (("if", "a", (SET_Y,), (SET_Z, SET_Y)), SET_X), (SET_X,))
        self.turns(drop, (("if", "a", (), ()),), ())
        self.turns(drop, (("if", "a", (("if", "b", (SET_Y,), ()),), (SET_Y, ("if", "c", (), ()))),), ())
        self.turns(drop, (("if", "a", (("if", "b", (SET_Y,), ()),), (SET_X,)),), (("if", "a", (), (SET_X,)),))

    def test_again_and_again(self):
        # With the if its test goes, and with that the set that it reads, and so on.
        self.turns(drop, (("set", "a", "b"), ("if", "a", (SET_Y,), ()), SET_X), (SET_X,))
        self.turns(drop, (("set", "c", 1), ("if", "c", (("set", "b", 1),), ()), ("if", "b", (("set", "a", 1),), ()),
                          ("if", "a", (SET_Y,), ()), SET_X), (SET_X,))
        # In a loop each of them is read by the next turn alone.
        ifs = tuple(("if", name, (("set", other, 1),), ()) for name, other in ("bc", "ca", "ay"))
        for body in (ifs, ifs[::-1]):
            self.turns(drop, (("while", "p", body + (DOWN,)),), (("while", "p", (DOWN,)),))

    def test_against_another_way(self):
        source = random.Random(101)
        left = 0
        for kernel, _ in drawn_kernels(102, 150):
            found = self.call(drop, kernel)
            self.assertEqual(found, slow_drop(source, kernel))
            left += found != kernel
        self.assertGreater(left, 40)

    def test_the_least_price_is_not_greater(self):
        tried = 0
        for kernel, launch in drawn_kernels(103, 120):
            launch = [lane for lane in launch[:3] if slow_lane(kernel, lane)[1] is not None]
            found = self.call(drop, kernel)
            if launch and found != kernel:
                try:
                    least = fewest(kernel, [launch])[0]
                except TooMany:
                    continue
                self.assertLessEqual(fewest(found, [launch])[0], least)
                tried += 1
        self.assertGreater(tried, 20)


class Same(PassCase):
    def test_equal_bodies(self):
        self.turns(same, (SET_Z, ("if", "a", (SET_X, SET_Y), (SET_X, SET_Y)), SET_Z), (SET_Z, SET_X, SET_Y, SET_Z))
        self.turns(same, (("if", 0, (SET_X,), (SET_X,)),), (SET_X,))
        loop = ("while", "p", (DOWN,))
        self.turns(same, (("if", "a", (loop,), (loop,)),), (loop,))

    def test_empty_bodies(self):
        self.turns(same, (("if", "a", (), ()),), ())
        self.turns(same, (SET_X, ("if", "a", (), ()), SET_X), (SET_X, SET_X))

    def test_other_bodies(self):
        for one, other in (((SET_X,), (SET_Y,)), ((SET_X,), ()), ((SET_X, SET_Y), (SET_Y, SET_X)), ((), (SET_X,)),
                           ((("while", "a", ()),), (("while", "b", ()),)), ((SET_X,), (SET_X, SET_X)),
                           ((("set", "x", ("+", "a", "b")),), (("set", "x", ("+", "b", "a")),))):
            self.stays_as_it_is(same, (("if", "a", one, other),))
        self.stays_as_it_is(same, (("while", "a", ()),))

    def test_ifs_that_become_equal(self):
        inner = ("if", "b", (SET_X,), (SET_X,))
        self.turns(same, (("if", "a", (inner,), (SET_X,)),), (SET_X,))
        self.turns(same, (("if", "a", (inner, SET_Y), (("if", "c", (SET_X, SET_Y), (SET_X, SET_Y)),)),), (SET_X, SET_Y))
        self.turns(same, (("if", "a", (("if", "b", (), ()),), ()),), ())
        self.turns(same, (("if", "a", (inner,), (inner, SET_Y)),), (("if", "a", (SET_X,), (SET_X, SET_Y)),))

    def test_within_loops(self):
        inner = ("if", "b", (SET_X,), (SET_X,))
        self.turns(same, (("while", "a", (inner, inner)),), (("while", "a", (SET_X, SET_X)),))
        self.turns(same, (("if", "a", (("while", "a", (inner,)),), (("while", "a", (SET_X,)),)),),
                   (("while", "a", (SET_X,)),))


class Pull(PassCase):
    def test_first_sets(self):
        self.turns(pull, (("if", "a", (SET_X, SET_Y, ADD), (SET_X, SET_Y, SET_Z)),),
                   (SET_X, SET_Y, ("if", "a", (ADD,), (SET_Z,))))
        self.turns(pull, (SET_Z, ("if", "a", (SET_X, ADD), (SET_X,)), SET_Z),
                   (SET_Z, SET_X, ("if", "a", (ADD,), ()), SET_Z))

    def test_the_register_of_the_term_stays(self):
        self.stays_as_it_is(pull, (("if", "x", (SET_X, SET_Y), (SET_X, SET_Z)),))
        self.turns(pull, (("if", ("+", 1, ("<", "b", "y")), (SET_X, SET_Y, ADD), (SET_X, SET_Y, SET_Z)),),
                   (SET_X, ("if", ("+", 1, ("<", "b", "y")), (SET_Y, ADD), (SET_Y, SET_Z))))
        # A register that the pulled set only reads may stand in the term.
        read = ("set", "x", ("+", "a", 1))
        self.turns(pull, (("if", "a", (read, SET_Y), (read, SET_Z)),), (read, ("if", "a", (SET_Y,), (SET_Z,))))
        # What stands behind a set that stays is not pulled in front, not even if it is equal.
        self.stays_as_it_is(pull, (("if", "x", (SET_X, SET_Y, ADD), (SET_X, SET_Y, SET_Z)),))

    def test_last_sets(self):
        self.turns(pull, (("if", "a", (ADD, SET_X, SET_Y), (SET_Z, SET_X, SET_Y)),),
                   (("if", "a", (ADD,), (SET_Z,)), SET_X, SET_Y))
        # The test is done by then.
        self.turns(pull, (("if", "x", (ADD, SET_X), (SET_Z, SET_X)),), (("if", "x", (ADD,), (SET_Z,)), SET_X))
        self.turns(pull, (("if", "a", (SET_Y, SET_X), (SET_X,)),), (("if", "a", (SET_Y,), ()), SET_X))

    def test_first_ones_before_last_ones(self):
        self.turns(pull, (("if", "a", (SET_X, SET_Z, SET_Y), (SET_X, SET_Y)),),
                   (SET_X, ("if", "a", (SET_Z,), ()), SET_Y))
        self.turns(pull, (("if", "a", (SET_X, SET_X), (SET_X,)),), (SET_X, ("if", "a", (SET_X,), ())))
        self.turns(pull, (("if", "a", (SET_X,), (SET_X, SET_Y, SET_X)),), (SET_X, ("if", "a", (), (SET_Y, SET_X))))

    def test_bodies_that_are_nothing_but_these_sets(self):
        self.turns(pull, (("if", "a", (SET_X, SET_Y), (SET_X, SET_Y)),), (SET_X, SET_Y, ("if", "a", (), ())))
        self.turns(pull, (("if", "x", (SET_X,), (SET_X,)),), (("if", "x", (), ()), SET_X))
        self.turns(pull, (("if", "y", (SET_X, SET_Y, ADD), (SET_X, SET_Y, ADD)),),
                   (SET_X, ("if", "y", (), ()), SET_Y, ADD))
        self.stays_as_it_is(pull, (("if", "a", (), ()),))

    def test_sets_that_leave_an_inner_if(self):
        inner = ("if", "b", (SET_X, SET_Y), (SET_X, SET_Z))
        rest = ("if", "b", (SET_Y,), (SET_Z,))
        self.turns(pull, (("if", "a", (inner,), (SET_X, ADD)),), (SET_X, ("if", "a", (rest,), (ADD,))))
        inner = ("if", "b", (SET_Y, SET_X), (SET_Z, SET_X))
        self.turns(pull, (("if", "a", (inner,), (ADD, SET_X)),), (("if", "a", (rest,), (ADD,)), SET_X))
        self.turns(pull, (("while", "a", (inner,)),), (("while", "a", (rest, SET_X)),))
        # In front of the inner if it stays, for the outer one's term has its register.
        inner = ("if", "b", (SET_X, SET_Y), (SET_X, SET_Z))
        self.turns(pull, (("if", "x", (inner,), (SET_X, ADD)),), (("if", "x", (SET_X, rest), (SET_X, ADD)),))

    def test_what_is_no_set_stays(self):
        loop = ("while", "p", (DOWN,))
        self.stays_as_it_is(pull, (("if", "a", (loop, SET_X), (loop, SET_Y)),))
        self.stays_as_it_is(pull, (("if", "a", (SET_X, loop), (SET_Y, loop)),))
        inner = ("if", "b", (SET_X,), (SET_Y,))
        self.stays_as_it_is(pull, (("if", "a", (inner,), (inner,)),))
        self.turns(pull, (("if", "a", (SET_X, loop, SET_Y), (SET_X, loop, SET_Y)),),
                   (SET_X, ("if", "a", (loop,), (loop,)), SET_Y))

    def test_other_kernels(self):
        self.stays_as_it_is(pull, ())
        self.stays_as_it_is(pull, (SET_X, SET_X, ("while", "a", (SET_X,))))
        self.stays_as_it_is(pull, (("if", "a", (SET_X,), ()),))
        self.turns(pull, EXAMPLE[1], (("if", "a", (SET_X,), ()), ("set", "x", ("+", "x", "b"))))


class AllPasses(PassCase):
    def test_ends_and_traces(self):
        changed = dict.fromkeys(PASSES, 0)
        for kernel, launch in drawn_kernels(104, 250):
            short = [lane for lane in launch if slow_lane(kernel, lane)[1] is not None]
            for change in PASSES:
                found = self.call(change, kernel)
                changed[change] += found != kernel
                self.is_true(is_kernel, found)
                self.assertEqual(found[0], kernel[0])
                self.assertEqual(self.call(change, found), found)
                for lane in short:
                    self.assertEqual(end(found, lane), slow_lane(kernel, lane)[0])
                    self.assertLessEqual(len(trace(found, lane)), len(trace(kernel, lane)))
                if short:
                    self.assertLessEqual(len(run_plain(found, short)[1]), len(run_plain(kernel, short)[1]))
        self.assertGreater(min(changed.values()), 30, changed)

    def test_against_another_way(self):
        source = random.Random(105)
        for kernel, _ in drawn_kernels(106, 200):
            self.assertEqual(self.call(fold, kernel), slow_fold(source, kernel))
            self.assertEqual(self.call(same, kernel), slow_same(source, kernel))
            self.assertEqual(self.call(pull, kernel), slow_pull(kernel))

    def test_great_kernels(self):
        for body in ((SET_X,) * 24, (("while", "a", (SET_X,) * 23),), (("if", "a", (), ()),) * 24,
                     (("if", "a", (SET_X,) * 11, (SET_X,) * 12),)):
            for change in PASSES:
                self.is_true(is_kernel, self.call(change, (("x",), body)))

    def test_what_is_no_kernel(self):
        for thing in NO_KERNELS:
            for function in PASSES + (live,):
                self.fails(NoKernel, function, thing)


class Live(PassCase):
    def lives(self, outputs, body, answer):
        self.assertEqual(self.call(live, (outputs, body)), answer)
        self.assertEqual(slow_live(outputs, body), set(answer))

    def test_without_statements(self):
        self.lives(("x",), (), ("x",))
        self.lives(("a", "b", "x"), (), ("a", "b", "x"))

    def test_sets(self):
        self.lives(("x",), (SET_X,), ())
        self.lives(("x",), (SET_Y,), ("x",))
        self.lives(("x",), (("set", "x", ("+", "x", "b")),), ("b", "x"))
        self.lives(("x",), (("set", "y", "a"),), ("a", "x"))
        self.lives(("x", "y"), (("set", "x", "y"), ("set", "y", "z")), ("y", "z"))
        self.lives(("x",), (("set", "a", 1), ("set", "x", ("*", "a", "b"))), ("b",))

    def test_branches(self):
        self.lives(("x",), (("if", "a", (SET_X,), (SET_X,)),), ("a",))
        self.lives(("x",), (("if", "a", (SET_X,), ()),), ("a", "x"))
        self.lives(("x",), (("if", "a", (("set", "x", "b"),), (("set", "x", "c"),)), ("set", "y", "d")),
                   ("a", "b", "c", "d"))
        self.lives(("x",), (("if", 1, (("set", "x", "b"),), (("set", "x", "c"),)),), ("b", "c"))
        self.lives(("x",), (("if", "a", (), ()),), ("a", "x"))

    def test_loops(self):
        self.lives(("x",), (("while", "a", (SET_X,)),), ("a", "x"))
        self.lives(("x",), (("while", 1, (SET_X,)),), ("x",))
        self.lives(("x",), (("while", "p", (("set", "x", "y"), ("set", "y", "z"), ("set", "z", "w"))),),
                   ("p", "w", "x", "y", "z"))
        self.lives(("x",), (("while", 0, (("set", "a", "b"),)),), ("b", "x"))
        self.lives(("x",), (SET_X, SET_Y, ("while", "y", (("set", "y", "x"),))), ())
        self.lives(("x",), (SET_X, ("while", "a", (("while", "b", (("set", "c", "d"),)), ("set", "d", "e")))),
                   ("a", "b", "d", "e"))

    def test_ascending(self):
        term = ("+", ("+", "z", "ab"), ("+", ("+", "b", "a"), "abc"))
        self.lives(("x",), (("set", "x", term),), ("a", "ab", "abc", "b", "z"))

    def test_against_another_way(self):
        for kernel, _ in drawn_kernels(107, 300):
            found = self.call(live, kernel)
            self.assertIs(found.__class__, tuple)
            self.assertEqual(found, tuple(sorted(slow_live(*kernel))))

    def test_only_live_registers_matter(self):
        source = random.Random(108)
        for kernel, launch in drawn_kernels(109, 80):
            names = self.call(live, kernel)
            for lane in launch:
                other = {name: lane[name] for name in lane if name in names}
                other |= {name: source.randrange(5) for name in "abijkxyz" if name not in names}
                self.assertEqual(end(kernel, other), end(kernel, lane))


if __name__ == "__main__":
    unittest.main()
