"""Launches, and the plain code: the rows of a body issued one statement after the other."""

from sideweave.alone import is_start, outputs_among, rows_alone
from sideweave.errors import NoLaunch, TooLong
from sideweave.kernels import check_kernel
from sideweave.terms import worked_out

MOST_LANES = 8


class Group:
    """Lanes that run together: their registers, and the issues for them so far."""

    def __init__(self, launch):
        self.now = [dict(start) for start in launch]
        self.issued = []

    def issue(self, row, lanes):
        """Issue a row for ascending lanes, if there are any; return those for which a test holds."""
        if not lanes:
            return []
        self.issued.append((row, tuple(lanes)))
        term = row[-1]
        numbers = [worked_out(term, self.now[lane]) for lane in lanes]
        if row[0] == "test":
            return [lane for lane, number in zip(lanes, numbers) if number != 0]
        for lane, number in zip(lanes, numbers):
            self.now[lane][row[1]] = number
        return []

    def ends(self, outputs):
        """Return the list of the lanes' ends, as if they were done now."""
        return [outputs_among(outputs, now) for now in self.now]

    def kept(self):
        """Return what bring_back needs to return to here."""
        return [dict(now) for now in self.now], len(self.issued)

    def bring_back(self, kept):
        """Return to where kept was called; what was issued since is forgotten."""
        registers, many = kept
        self.now = [dict(now) for now in registers]
        # The list stays the same one: whoever holds it sees what was forgotten.
        del self.issued[many:]


def is_launch(thing):
    """Tell whether a value is a launch."""
    if not isinstance(thing, list) or not 1 <= len(thing) <= MOST_LANES:
        return False
    return all(is_start(start) for start in thing)


def check_launch(thing):
    """Raise NoLaunch for what is no launch."""
    if not is_launch(thing):
        raise NoLaunch("this is no launch")


def check_lanes(kernel, launch):
    """Raise TooLong with the least lane that is long; the arguments have been checked."""
    for lane, start in enumerate(launch):
        if rows_alone(kernel[1], dict(start)) is None:
            raise TooLong(lane)


def run_plain(kernel, launch):
    """Return the lanes' ends and all issues of the plain code, as two lists."""
    check_kernel(kernel)
    check_launch(launch)
    check_lanes(kernel, launch)
    group = Group(launch)
    issue_body(kernel[1], list(range(len(launch))), group)
    return group.ends(kernel[0]), group.issued


def issue_body(body, lanes, group):
    """Issue a body for these lanes."""
    for statement in body:
        if statement[0] == "set":
            group.issue(statement, lanes)
        elif statement[0] == "if":
            issue_if(statement, lanes, group)
        else:
            issue_while(statement, lanes, group)


def issue_if(statement, lanes, group):
    """Issue an if for these lanes: its test, then each body for the lanes that do it."""
    holding = group.issue(("test", statement[1]), lanes)
    issue_body(statement[2], holding, group)
    issue_body(statement[3], [lane for lane in lanes if lane not in holding], group)


def issue_while(statement, lanes, group):
    """Issue a while for these lanes, until each has left it."""
    inside = lanes
    while inside:
        inside = group.issue(("test", statement[1]), inside)
        issue_body(statement[2], inside, group)
