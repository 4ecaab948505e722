"""Visits and checks of bodies, and the price of a weave for launches."""

from sideweave.errors import NoLaunch
from sideweave.kernels import bodies_of, check_kernel
from sideweave.plain import check_lanes, is_launch
from sideweave.terms import worked_out
from sideweave.weaves import check_weave, count_done, rows_of, taken

MOST_LAUNCHES = 4
FIRST_PROBLEM = ((),)


class Marks:
    """The different visits, or checks, that lanes make of paths; all are noted before they are counted."""

    def __init__(self):
        self.noted = {}
        self.known = {}

    def begin(self, path):
        """Take in a path, with no marks so far."""
        self.noted[path] = {}

    def note(self, path, mark):
        """Note a mark of a path, if it is a new one."""
        self.noted[path][mark] = True

    def many(self, paths):
        """Return the number of different marks of these paths together."""
        # fewest asks for the same paths at each state, and long launches leave thousands of marks.
        if paths not in self.known:
            self.known[paths] = len({mark for path in paths for mark in self.noted[path]})
        return self.known[paths]

    def lists(self):
        """Return a dict from the paths to ascending lists of their marks."""
        return {path: sorted(self.noted[path]) for path in self.noted}


class Tally:
    """A kernel's bodies by their paths, and what lanes visit and check of them."""

    def __init__(self, kernel):
        self.bodies = {}
        self.visited = Marks()
        self.checked = Marks()
        self.add_body(kernel[1], ())

    def add_body(self, body, path):
        """Add a body, and those within it, of which nothing is visited so far."""
        self.bodies[path] = body
        self.visited.begin(path)
        for at, statement in enumerate(body):
            for number, inner in enumerate(bodies_of(statement)):
                self.add_body(inner, path + (at, number))
            if statement[0] == "while":
                self.checked.begin(path + (at, 0))

    def visit(self, path, mark, now):
        """Note what a lane with these registers visits when it does a body, and change the registers."""
        self.visited.note(path, mark)
        for at, statement in enumerate(self.bodies[path]):
            if statement[0] == "set":
                now[statement[1]] = worked_out(statement[2], now)
            elif statement[0] == "if":
                number = 0 if worked_out(statement[1], now) != 0 else 1
                self.visit(path + (at, number), mark, now)
            else:
                self.visit_turns(path + (at, 0), statement[1], mark, now)

    def visit_turns(self, path, term, mark, now):
        """Note what a lane visits and checks when it comes to a while with this body and term."""
        turn = 0
        self.checked.note(path, mark + (turn,))
        while worked_out(term, now) != 0:
            self.visit(path, mark + (turn,), now)
            turn += 1
            self.checked.note(path, mark + (turn,))


def check_launches(thing):
    """Raise NoLaunch for what is no list of one to four launches."""
    if not isinstance(thing, list) or not 1 <= len(thing) <= MOST_LAUNCHES:
        raise NoLaunch("this is no list of one to four launches")
    if not all(is_launch(launch) for launch in thing):
        raise NoLaunch("one of these is no launch")


def tally_of(kernel, launches):
    """Return the tally of a kernel for launches; both have been checked. Raise TooLong for a long lane."""
    for launch in launches:
        check_lanes(kernel, launch)
    tally = Tally(kernel)
    for number, launch in enumerate(launches):
        for start in launch:
            tally.visit((), (number,), dict(start))
    return tally


def visits(kernel, launches):
    """Return a dict from the paths of all bodies to ascending lists of their visits."""
    check_kernel(kernel)
    check_launches(launches)
    return tally_of(kernel, launches).visited.lists()


def checks(kernel, launches):
    """Return a dict from the paths of the bodies of whiles to ascending lists of checks."""
    check_kernel(kernel)
    check_launches(launches)
    return tally_of(kernel, launches).checked.lists()


def price(kernel, weave, launches):
    """Return the price of a weave of the kernel for launches."""
    check_kernel(kernel)
    check_weave(kernel, weave)
    check_launches(launches)
    return weave_price(tally_of(kernel, launches), FIRST_PROBLEM, weave)


def weave_price(tally, problem, weave):
    """Return the price of a weave of the bodies with the paths of a problem."""
    total = 0
    done = [0] * len(problem)
    for item in weave:
        total += rows_price(tally, problem, done, item[1])
        if item[0] != "set":
            total += weave_price(tally, problem_within(tally, problem, done, item[1]), item[2])
        count_done(done, item[1])
    return total


def rows_price(tally, problem, done, sides):
    """Return the price of the item for the next statements of these sides, without that of its weave."""
    bodies = [tally.bodies[path] for path in problem]
    statements = taken(bodies, done, sides)
    marks = tally.visited
    paths = [problem[side] for side in sides]
    if statements[0][0] == "while":
        marks = tally.checked
        paths = [problem[side] + (done[side], 0) for side in sides]
    return sum([marks.many(tuple([paths[place] for place in places])) for _, places in rows_of(statements)])


def problem_within(tally, problem, done, sides):
    """Return the problem of the item for the next statements of these sides; it is empty for sets."""
    found = []
    for side in sides:
        path = problem[side]
        inner = bodies_of(tally.bodies[path][done[side]])
        found.extend([path + (done[side], number) for number in range(len(inner))])
    return tuple(found)
