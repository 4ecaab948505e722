"""Kernels: outputs, and a body of sets, ifs and whiles."""

from sideweave.errors import NoKernel
from sideweave.terms import is_name, is_term

MOST_OUTPUTS = 8
MOST_STATEMENTS = 24
MOST_NESTED = 3
MOST_IFS_NESTED = 2
NO_BODY = -1


def is_kernel(thing):
    """Tell whether a value is a kernel."""
    return isinstance(thing, tuple) and len(thing) == 2 and is_outputs(thing[0]) and is_body(thing[1])


def is_outputs(thing):
    """Tell whether a value is a tuple of one to eight different names, ascending."""
    if not isinstance(thing, tuple) or not 1 <= len(thing) <= MOST_OUTPUTS:
        return False
    if not all(is_name(name) for name in thing):
        return False
    return all(thing[at - 1] < thing[at] for at in range(1, len(thing)))


def is_body(thing):
    """Tell whether a value is a body that a kernel may have."""
    return room_behind(thing, MOST_STATEMENTS, MOST_NESTED, MOST_IFS_NESTED) != NO_BODY


def room_behind(thing, room, nested, ifs):
    """Return how many more statements there may be behind a body, or NO_BODY for what is none.

    There may be `room` statements before it, and in it ifs and whiles `nested` deep, `ifs` of them ifs.
    """
    # The room is counted down on the way, so that no value is looked at for longer than a kernel is.
    if not isinstance(thing, tuple) or len(thing) > room or nested < 0 or ifs < 0:
        return NO_BODY
    room = room - len(thing)
    for statement in thing:
        if not has_form(statement):
            return NO_BODY
        ifs_inside = ifs - 1 if statement[0] == "if" else ifs
        for inner in bodies_of(statement):
            room = room_behind(inner, room, nested - 1, ifs_inside)
            if room == NO_BODY:
                return NO_BODY
    return room


def has_form(thing):
    """Tell whether a value is a statement, whatever stands for the bodies in it."""
    if not isinstance(thing, tuple) or len(thing) not in (3, 4):
        return False
    if thing[0] == "set":
        return len(thing) == 3 and is_name(thing[1]) and is_term(thing[2])
    if thing[0] == "if":
        return len(thing) == 4 and is_term(thing[1])
    return thing[0] == "while" and len(thing) == 3 and is_term(thing[1])


def bodies_of(statement):
    """Return the tuple of the bodies in a statement: two of an if, one of a while, none of a set."""
    return () if statement[0] == "set" else statement[2:]


def check_kernel(thing):
    """Raise NoKernel for what is no kernel."""
    if not is_kernel(thing):
        raise NoKernel("this is no kernel")


def size(kernel):
    """Return the number of a kernel's statements, with those within statements."""
    check_kernel(kernel)
    return statements_in(kernel[1])


def statements_in(body):
    """Return the number of a body's statements; the body has been checked."""
    inner = [part for statement in body for part in bodies_of(statement)]
    return len(body) + sum(statements_in(part) for part in inner)
