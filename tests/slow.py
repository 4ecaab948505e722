"""Kernels, launches and weaves to try, and other ways to find what the program tells of them."""

from sideweave.terms import value

MOST_ROWS = 500


def random_term(source, names, levels):
    """Return a term over these names."""
    if levels == 0 or source.random() < 0.4:
        return source.choice(names) if source.random() < 0.6 else source.randrange(4)
    sign = source.choice("+-*<=")
    return (sign, random_term(source, names, levels - 1), random_term(source, names, levels - 1))


def random_body(source, room, nested=3, ifs=2):
    """Return a body with at most so many statements; most of its loops end, and many of its sets are the same."""
    body = []
    while room > 0 and source.random() < 0.9:
        kind = source.random()
        if nested and ifs and kind < 0.4:
            inner = [random_body(source, (room - 1) // 2, nested - 1, ifs - 1) for _ in range(2)]
            body.append(("if", source.choice(TESTS), inner[0], inner[1]))
        elif nested and room > 1 and kind < 0.6:
            name = "ijk"[nested - 1]
            inner = random_body(source, room - 2, nested - 1, ifs) + (("set", name, ("+", name, 1)),)
            body.append(("while", ("<", name, source.choice(("a", "b", 2))), inner))
        elif kind < 0.95:
            body.append(source.choice(SETS))
        else:
            body.append(("set", source.choice("abx"), random_term(source, "abx", 1)))
        room -= many_in(body[-1:])
    return tuple(body)


SETS = (("set", "x", 1), ("set", "x", ("+", "x", "b")), ("set", "a", ("-", "a", 1)))
TESTS = ("a", "b", ("<", "x", "b"))


def plain_items(bodies):
    """Return the weave of these bodies in which each item has one side, those of an earlier side first."""
    weave = ()
    for side, body in enumerate(bodies):
        for statement in body:
            if statement[0] == "set":
                weave += (("set", (side,)) + statement[1:],)
            else:
                word = "split" if statement[0] == "if" else "loop"
                weave += ((word, (side,), plain_items(statement[2:])),)
    return weave


def many_in(body):
    """Return the number of statements in a body."""
    return sum(1 + sum(many_in(part) for part in statement[2:] if statement[0] != "set") for statement in body)


def random_kernel(source, room):
    return (tuple(sorted(source.sample("abijkxy", source.randrange(1, 5)))), random_body(source, room))


def random_launch(source, lanes=8):
    """Return a launch of at most so many lanes."""
    return [{name: source.randrange(3) for name in source.sample("abijkx", source.randrange(5))}
            for _ in range(source.randrange(1, lanes + 1))]


def inner_bodies(statements):
    """Return the sides of the weave within the item for these statements."""
    return [part for statement in statements for part in statement[2:]]


def slow_choices(bodies, done):
    """Return all tuples of sides that an item may have in this state."""
    found = []
    for number in range(1, 2 ** len(bodies)):
        sides = tuple(side for side in range(len(bodies)) if number >> side & 1)
        if all(done[side] < len(bodies[side]) for side in sides):
            nexts = [bodies[side][done[side]] for side in sides]
            keys = {statement if statement[0] == "set" else statement[0] for statement in nexts}
            if len(keys) == 1:
                found.append(sides)
    return found


def after(done, sides):
    return tuple(many + (side in sides) for side, many in enumerate(done))


def items_from(bodies, done, sides, inside):
    """Return the items that may stand for the next statements of these sides; inside makes the weaves within."""
    nexts = [bodies[side][done[side]] for side in sides]
    if nexts[0][0] == "set":
        return [("set", sides) + nexts[0][1:]]
    word = "split" if nexts[0][0] == "if" else "loop"
    return [(word, sides, weave) for weave in inside(inner_bodies(nexts))]


def random_weave(source, bodies):
    """Return a weave of these bodies, with many items of several sides."""
    done = (0,) * len(bodies)
    weave = ()
    while slow_choices(bodies, done):
        sides = source.choice(slow_choices(bodies, done))
        if source.random() < 0.6:
            sides = max(slow_choices(bodies, done), key=len)
        weave += tuple(items_from(bodies, done, sides, lambda inner: [random_weave(source, inner)]))
        done = after(done, sides)
    return weave


def all_weaves(bodies, done=None):
    """Return the list of all weaves of these bodies behind those statements."""
    done = (0,) * len(bodies) if done is None else done
    steps = slow_choices(bodies, done)
    if not steps:
        return [()]
    found = []
    for sides in steps:
        rest = all_weaves(bodies, after(done, sides))
        found += [(item,) + more for item in items_from(bodies, done, sides, all_weaves) for more in rest]
    return found


def slow_lane(kernel, registers):
    """Return the end and the trace of a lane, or None and None if it is long; it goes row by row."""
    now = dict(registers)
    rows = []
    stack = [[kernel[1], 0]]
    while stack and len(rows) <= MOST_ROWS:
        body, at = stack[-1]
        if at == len(body):
            stack.pop()
            continue
        statement = body[at]
        stack[-1][1] += 1
        if statement[0] == "set":
            rows.append(statement)
            now[statement[1]] = value(statement[2], now)
            continue
        rows.append(("test", statement[1]))
        number = value(statement[1], now)
        if statement[0] == "if":
            stack.append([statement[2] if number else statement[3], 0])
        elif number:
            stack[-1][1] -= 1
            stack.append([statement[2], 0])
    if len(rows) > MOST_ROWS:
        return None, None
    return {name: now.get(name, 0) for name in kernel[0]}, rows


def keyed_rows(bodies, side, weave, now, key):
    """Return the rows of a lane that does one of the bodies, each as (key, row): issues are sorted by their keys.

    The key of a row tells where it stands in the woven code: the item, the turn, then the test or the part within.
    """
    found = []
    done = [0] * len(bodies)
    for at, item in enumerate(weave):
        nexts = [bodies[number][done[number]] for number in item[1]]
        if side in item[1]:
            place = item[1].index(side)
            found += rows_of_item(nexts, place, item, now, key + (at,))
        for number in item[1]:
            done[number] += 1
    return found


def rows_of_item(nexts, place, item, now, key):
    """Return the rows of a lane that comes to an item, on the side with this place among its sides."""
    mine = nexts[place]
    if item[0] == "set":
        now[mine[1]] = value(mine[2], now)
        return [(key, mine)]
    first = min(at for at, statement in enumerate(nexts) if statement[1] == mine[1])
    inner = inner_bodies(nexts)
    found = [(key + (0, first), ("test", mine[1]))]
    number = value(mine[1], now)
    if item[0] == "split":
        return found + keyed_rows(inner, 2 * place + (number == 0), item[2], now, key + (1,))
    turn = 0
    while number:
        found += keyed_rows(inner, place, item[2], now, key + (2 * turn + 1,))
        turn += 1
        found.append((key + (2 * turn, first), ("test", mine[1])))
        number = value(mine[1], now)
    return found


def slow_issues(kernel, weave, launch):
    """Return the issues of the woven code, from the keys of each lane's rows."""
    table = {}
    for lane, registers in enumerate(launch):
        for key, row in keyed_rows((kernel[1],), 0, weave, dict(registers), ()):
            table.setdefault(key, (row, []))[1].append(lane)
    return [(table[key][0], tuple(table[key][1])) for key in sorted(table)]


def slow_visits(kernel, launches):
    """Return the visits and the checks of all paths, as two dicts to ascending lists; a lane goes row by row."""
    visited, checked = {}, {}
    waiting = [((), kernel[1])]
    while waiting:
        path, body = waiting.pop()
        visited[path] = []
        for at, statement in enumerate(body):
            if statement[0] == "while":
                checked[path + (at, 0)] = []
            if statement[0] != "set":
                waiting += [(path + (at, number), inner) for number, inner in enumerate(statement[2:])]
    for number, launch in enumerate(launches):
        for registers in launch:
            follow(kernel, dict(registers), number, visited, checked)
    return [{path: sorted(set(table[path])) for path in table} for table in (visited, checked)]


def follow(kernel, now, launch, visited, checked):
    """Add what a lane visits and checks; a frame is a body, its path, its mark, its next statement, its turns."""
    stack = [[kernel[1], (), (launch,), 0, 0]]
    visited[()].append((launch,))
    while stack:
        frame = stack[-1]
        body, path, mark, at, turn = frame
        if at == len(body):
            stack.pop()
            continue
        statement = body[at]
        number = value(statement[2] if statement[0] == "set" else statement[1], now)
        if statement[0] == "while":
            checked[path + (at, 0)].append(mark + (turn,))
        if statement[0] == "while" and number:
            frame[4] += 1
            inner, which, marks = statement[2], 0, mark + (turn,)
        else:
            frame[3], frame[4] = at + 1, 0
            if statement[0] == "set":
                now[statement[1]] = number
            if statement[0] != "if":
                continue
            inner, which, marks = statement[2 if number else 3], 0 if number else 1, mark
        visited[path + (at, which)].append(marks)
        stack.append([inner, path + (at, which), marks, 0, 0])


def slow_code(outputs, code, launch):
    """Return the ends and the issues of a code, or None if they are too many; its masks are sets of lanes."""
    nows = [dict(registers) for registers in launch]
    masks = {mask: set() for mask in range(100)}
    masks[0] = set(range(len(launch)))
    issues, place, idle = [], 0, 0
    while place != len(code):
        instruction = code[place]
        place += 1
        idle += 1
        lanes = set()
        if instruction[0] in ("set", "join", "skip"):
            lanes = set().union(*[masks[mask] for mask in instruction[1]])
        if instruction[0] == "set":
            for lane in lanes:
                nows[lane][instruction[2]] = value(instruction[3], nows[lane])
        elif instruction[0] == "test":
            before = {mask: frozenset(masks[mask]) for mask in masks}
            for source, _, _ in instruction[1]:
                masks[source] = masks[source] - before[source]
            for source, yes, no in instruction[1]:
                lanes |= before[source]
                for lane in before[source]:
                    masks[yes if value(instruction[2], nows[lane]) else no].add(lane)
        elif instruction[0] == "join":
            for mask in instruction[1]:
                masks[mask] = set()
            masks[instruction[2]] |= lanes
        elif instruction[0] == "back" or not lanes:
            place = instruction[-1]
        if lanes and instruction[0] in ("set", "test"):
            row = ("set",) + instruction[2:] if instruction[0] == "set" else ("test", instruction[2])
            issues.append((row, tuple(sorted(lanes))))
            idle = 0
        if idle > 2000 or len(issues) > 4000:
            return None
    return [{name: now.get(name, 0) for name in outputs} for now in nows], issues
