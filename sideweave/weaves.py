"""Weaves of several bodies, the sides, into items that stand for statements of one side or more."""

from sideweave.errors import NoBodies, NoWeave
from sideweave.kernels import bodies_of, check_kernel, is_body
from sideweave.terms import is_count, is_name, is_term

MOST_BODIES = 4
STATEMENT_WORDS = {"split": "if", "loop": "while"}


def is_weave(bodies, thing):
    """Tell whether a value is a weave of these bodies."""
    check_bodies(bodies)
    return weaves_bodies(bodies, thing)


def check_bodies(thing):
    """Raise NoBodies for what is no tuple of one to four bodies."""
    if not isinstance(thing, tuple) or not 1 <= len(thing) <= MOST_BODIES:
        raise NoBodies("this is no tuple of one to four bodies")
    if not all(is_body(body) for body in thing):
        raise NoBodies("one of these is no body")


def check_weave(kernel, thing):
    """Raise NoWeave for what is no weave of a kernel; the kernel has been checked."""
    if not weaves_bodies((kernel[1],), thing):
        raise NoWeave("this is no weave of the kernel")


def weaves_bodies(bodies, thing):
    """Tell whether a value is a weave of bodies that have been checked."""
    if not isinstance(thing, tuple):
        return False
    done = [0] * len(bodies)
    for item in thing:
        if not has_form(item, len(bodies)):
            return False
        if not all(done[side] < len(bodies[side]) for side in item[1]):
            return False
        if not stands_for(item, taken(bodies, done, item[1])):
            return False
        count_done(done, item[1])
    return done == [len(body) for body in bodies]


def has_form(thing, many):
    """Tell whether a value is an item for so many sides, whatever stands for the weave in it."""
    if not isinstance(thing, tuple) or len(thing) not in (3, 4) or not is_choice(thing[1], many):
        return False
    if thing[0] == "set":
        return len(thing) == 4 and is_name(thing[2]) and is_term(thing[3])
    return len(thing) == 3 and thing[0] in ("split", "loop")


def is_choice(thing, many):
    """Tell whether a value is an ascending tuple of one or more different integers from 0 to many - 1."""
    if not isinstance(thing, tuple) or not 1 <= len(thing) <= many:
        return False
    if not all(is_index(number, many) for number in thing):
        return False
    return all(thing[at - 1] < thing[at] for at in range(1, len(thing)))


def is_index(thing, many):
    """Tell whether a value is an integer from 0 to many - 1."""
    return is_count(thing) and thing < many


def stands_for(item, statements):
    """Tell whether an item stands for these statements, the next ones of its sides."""
    if item[0] == "set":
        return all(statement == ("set", item[2], item[3]) for statement in statements)
    word = STATEMENT_WORDS[item[0]]
    if not all(statement[0] == word for statement in statements):
        return False
    return weaves_bodies(bodies_within(statements), item[2])


def taken(bodies, done, sides):
    """Return the next statements of these sides, behind those that are done."""
    return [bodies[side][done[side]] for side in sides]


def count_done(done, sides):
    """Count one more statement as done on each of these sides."""
    for side in sides:
        done[side] += 1


def bodies_within(statements):
    """Return the tuple of the bodies in these statements: the sides of the weave within their item."""
    return tuple([inner for statement in statements for inner in bodies_of(statement)])


def plain_weave(kernel):
    """Return the weave of a kernel in which each item has one side, those of an earlier side first."""
    check_kernel(kernel)
    return one_by_one((kernel[1],))


def one_by_one(bodies):
    """Return the weave of bodies in which each item has one side, those of an earlier side first."""
    return tuple([item_alone(side, statement) for side, body in enumerate(bodies) for statement in body])


def item_alone(side, statement):
    """Return the item that stands for a statement of one side."""
    if statement[0] == "set":
        return ("set", (side,), statement[1], statement[2])
    word = "split" if statement[0] == "if" else "loop"
    return (word, (side,), one_by_one(bodies_of(statement)))


class Item:
    """An item of a weave, opened: what it issues, and the opened items within it.

    Its rows are tuples (row, places): a row, and the places, among the item's sides, that have it.
    """

    def __init__(self, word, sides, rows, inner):
        self.word = word
        self.sides = sides
        self.rows = rows
        self.inner = inner


def opened(bodies, weave):
    """Return the list of the opened items of a weave of these bodies; both have been checked."""
    done = [0] * len(bodies)
    found = []
    for item in weave:
        statements = taken(bodies, done, item[1])
        inner = [] if item[0] == "set" else opened(bodies_within(statements), item[2])
        found.append(Item(item[0], item[1], rows_of(statements), inner))
        count_done(done, item[1])
    return found


def rows_of(statements):
    """Return the different rows that these statements begin with, each as (row, places that have it)."""
    places = {}
    for at, statement in enumerate(statements):
        row = statement if statement[0] == "set" else ("test", statement[1])
        places.setdefault(row, []).append(at)
    return list(places.items())
