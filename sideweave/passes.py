"""Passes: kernels with the same ends and traces at most as long; and the registers that are live."""

from sideweave.kernels import bodies_of, check_kernel
from sideweave.terms import combined, names_of


def fold(kernel):
    """Return the kernel with its operators between numbers worked out, and without what these decide."""
    check_kernel(kernel)
    return kernel[0], rewritten(kernel[1], folded)


def drop(kernel):
    """Return the kernel without the sets that nothing reads, and without the ifs that become empty."""
    check_kernel(kernel)
    outputs, body = kernel
    left = without_dead(body, outputs)
    while left != body:
        body = left
        left = without_dead(body, outputs)
    return outputs, body


def same(kernel):
    """Return the kernel with the body of each if that has two equal ones in place of it."""
    check_kernel(kernel)
    return kernel[0], rewritten(kernel[1], one_of_equal)


def pull(kernel):
    """Return the kernel with the equal first and last sets of both bodies of ifs around them."""
    check_kernel(kernel)
    return kernel[0], rewritten(kernel[1], pulled)


def live(kernel):
    """Return the ascending tuple of the registers live before the kernel's first statement."""
    check_kernel(kernel)
    return live_before(kernel[1], kernel[0])


def rewritten(body, change):
    """Return a body in which each statement, from the inside, is replaced by those that `change` makes of it."""
    found = []
    for statement in body:
        inner = tuple([rewritten(part, change) for part in bodies_of(statement)])
        found.extend(change(statement[:2] + inner if inner else statement))
    return tuple(found)


def folded(statement):
    """Return what fold makes of a statement with folded bodies."""
    if statement[0] == "set":
        return (statement[:2] + (folded_term(statement[2]),),)
    term = folded_term(statement[1])
    if statement[0] == "if" and isinstance(term, int):
        return statement[2] if term != 0 else statement[3]
    if statement[0] == "while" and term == 0:
        return ()
    return ((statement[0], term) + statement[2:],)


def folded_term(term):
    """Return a term with its operators between numbers worked out."""
    if not isinstance(term, tuple):
        return term
    sign, left, right = term[0], folded_term(term[1]), folded_term(term[2])
    if isinstance(left, int) and isinstance(right, int):
        return combined(sign, left, right)
    return (sign, left, right)


def one_of_equal(statement):
    """Return what same makes of a statement, the bodies of which are done."""
    return statement[2] if statement[0] == "if" and statement[2] == statement[3] else (statement,)


def pulled(statement):
    """Return what pull makes of a statement, the bodies of which are done."""
    if statement[0] != "if":
        return (statement,)
    word, term, first, second = statement
    many = equal_sets(first, second, names_of(term))
    front, first, second = first[:many], first[many:], second[many:]
    many = equal_sets(first[::-1], second[::-1], ())
    left = (word, term, first[:len(first) - many], second[:len(second) - many])
    return front + (left,) + first[len(first) - many:]


def equal_sets(one, other, barred):
    """Return how many sets at the front of two bodies are equal and set none of the barred registers."""
    many = 0
    for statement, beside in zip(one, other):
        if statement != beside or statement[0] != "set" or statement[1] in barred:
            return many
        many += 1
    return many


def live_before(body, behind):
    """Return the ascending tuple of the registers live before a body, by those that are live behind it."""
    found = behind
    for statement in reversed(body):
        found = live_before_one(statement, found)
    return found


def live_before_one(statement, behind):
    """Return the registers live before a statement, by those that are live behind it."""
    if statement[0] == "set":
        return joined(names_of(statement[2]), tuple([name for name in behind if name != statement[1]]))
    if statement[0] == "while":
        return live_in_turn(statement, behind)
    return joined(names_of(statement[1]), live_before(statement[2], behind) + live_before(statement[3], behind))


def live_in_turn(loop, behind):
    """Return the registers live before each test of a while: before the while, and behind its body."""
    passing = joined(names_of(loop[1]), behind)
    # Once through the body is enough: what is live before it is read in it, or is live behind it already.
    return joined(passing, live_before(loop[2], passing))


def joined(one, other):
    """Return the ascending tuple of the names in two tuples, each once."""
    return tuple(sorted(set(one + other)))


def without_dead(body, behind):
    """Return a body without sets whose registers are not live behind them, and without ifs that are then empty.

    What a while's body reads counts for the whole of it, also what is left out of it here: done again, this may
    leave out more.
    """
    found = []
    alive = behind
    for statement in reversed(body):
        left = left_of(statement, alive)
        found.extend(left)
        alive = live_before(left, alive)
    return tuple(reversed(found))


def left_of(statement, behind):
    """Return what without_dead leaves of a statement: a tuple of it, or the empty one."""
    if statement[0] == "set":
        return (statement,) if statement[1] in behind else ()
    if statement[0] == "while":
        return (statement[:2] + (without_dead(statement[2], live_in_turn(statement, behind)),),)
    inner = tuple([without_dead(part, behind) for part in bodies_of(statement)])
    return (statement[:2] + inner,) if any(inner) else ()
