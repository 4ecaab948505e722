"""A lane alone: its end and its trace."""

from sideweave.errors import NoLaunch
from sideweave.kernels import check_kernel
from sideweave.terms import is_registers, worked_out

MOST_ROWS = 500
MOST_NAMES = 16


def end(kernel, registers):
    """Return the end of the lane that starts with these registers, or None if it is long."""
    check_kernel(kernel)
    check_start(registers)
    now = dict(registers)
    return None if rows_alone(kernel[1], now) is None else outputs_among(kernel[0], now)


def trace(kernel, registers):
    """Return the list of the rows that the lane with these registers executes, or None if it is long."""
    check_kernel(kernel)
    check_start(registers)
    return rows_alone(kernel[1], dict(registers))


def is_start(thing):
    """Tell whether a value is what a lane may start with: a dict from up to sixteen names to numbers."""
    return is_registers(thing, MOST_NAMES)


def check_start(thing):
    """Raise NoLaunch for what a lane may not start with."""
    if not is_start(thing):
        raise NoLaunch("these are no registers of a lane")


def outputs_among(outputs, now):
    """Return the end of a lane with these registers: a dict from just the outputs to their numbers."""
    return {name: now.get(name, 0) for name in outputs}


def rows_alone(body, now):
    """Execute a body, changing the registers, and return its rows, or None if there are too many."""
    rows = []
    return rows if does_body(body, now, rows) else None


def does_body(body, now, rows):
    """Execute a body, adding its rows; return False as soon as there are too many of them."""
    for statement in body:
        if not does(statement, now, rows):
            return False
    return len(rows) <= MOST_ROWS


def does(statement, now, rows):
    """Execute a statement as does_body executes a body."""
    if statement[0] == "set":
        rows.append(statement)
        now[statement[1]] = worked_out(statement[2], now)
    elif statement[0] == "if":
        holds = does_test(statement[1], now, rows)
        return does_body(statement[2] if holds else statement[3], now, rows)
    else:
        while does_test(statement[1], now, rows):
            if not does_body(statement[2], now, rows):
                return False
    return len(rows) <= MOST_ROWS


def does_test(term, now, rows):
    """Execute a test, adding its row, and return whether the term is not 0."""
    rows.append(("test", term))
    return worked_out(term, now) != 0
