"""The least price of a weave, a weave that has it, and prices that show that none is cheaper."""

from sideweave.errors import TooMany
from sideweave.kernels import check_kernel
from sideweave.prices import FIRST_PROBLEM, check_launches, problem_within, rows_price, tally_of

MOST_STATES = 400
MOST_STATES_IN_ALL = 1500


def fewest(kernel, launches):
    """Return the least price of a weave of the kernel for launches, such a weave, and prices."""
    check_kernel(kernel)
    check_launches(launches)
    tally = tally_of(kernel, launches)
    prices = least_prices(tally, problems_of(tally))
    return prices[FIRST_PROBLEM][first_state(FIRST_PROBLEM)], best_weave(tally, prices, FIRST_PROBLEM), prices


def is_prices(kernel, launches, thing):
    """Tell whether a value is prices of the kernel and the launches."""
    check_kernel(kernel)
    check_launches(launches)
    tally = tally_of(kernel, launches)
    problems = problems_of(tally)
    return has_states(problems, thing) and shows_bounds(tally, problems, thing)


def first_state(problem):
    """Return the state of a problem in which nothing is done."""
    return (0,) * len(problem)


def state_behind(state, sides):
    """Return the state in which one statement more is done on each of these sides."""
    return tuple([done + 1 if side in sides else done for side, done in enumerate(state)])


def problems_of(tally):
    """Return a dict from the problems that prices must contain to their states, outer problems first."""
    problems = {}
    room = MOST_STATES_IN_ALL
    level = [FIRST_PROBLEM]
    while level:
        deeper = {}
        for problem in level:
            problems[problem] = states_of(tally, problem, min(room, MOST_STATES))
            room = room - len(problems[problem])
            for inner in problems_inside(tally, problem, problems[problem]):
                deeper[inner] = True
        level = list(deeper)
    return problems


def states_of(tally, problem, room):
    """Return the ascending list of the states of a problem; raise TooMany if there are more than room."""
    lengths = [len(tally.bodies[path]) for path in problem]
    many = 1
    for length in lengths:
        many = many * (length + 1)
    # Counted first, for as they stand the states of four sides may be many thousands.
    if many > room:
        raise TooMany("there are too many states")
    states = [()]
    for length in lengths:
        states = [state + (done,) for state in states for done in range(length + 1)]
    return states


def problems_inside(tally, problem, states):
    """Return the list of the problems of all splits and loops of steps from these states."""
    found = [problem_within(tally, problem, state, sides) for state in states for sides in steps(tally, problem, state)]
    return [inner for inner in found if inner]


def steps(tally, problem, state):
    """Return the steps from a state of a problem, each as the ascending tuple of its sides."""
    alike = {}
    for side, path in enumerate(problem):
        body = tally.bodies[path]
        if state[side] < len(body):
            statement = body[state[side]]
            key = statement if statement[0] == "set" else statement[0]
            alike.setdefault(key, []).append(side)
    return [sides for together in alike.values() for sides in choices(together)]


def choices(together):
    """Return all ascending tuples of one or more of these sides, which ascend."""
    found = [()]
    for side in together:
        found = found + [chosen + (side,) for chosen in found]
    return found[1:]


def step_cost(tally, prices, problem, state, sides):
    """Return the cost of a step, taken from these prices, and the number behind it."""
    cost = rows_price(tally, problem, state, sides) + prices[problem][state_behind(state, sides)]
    inner = problem_within(tally, problem, state, sides)
    return cost + prices[inner][first_state(inner)] if inner else cost


def least_cost(tally, prices, problem, state):
    """Return the least cost of a step from a state, with the number behind it; 0 where all is done."""
    return min([step_cost(tally, prices, problem, state, sides) for sides in steps(tally, problem, state)], default=0)


def least_prices(tally, problems):
    """Return the prices that are as great as prices can be."""
    prices = {}
    for problem in reversed(list(problems)):
        prices[problem] = {}
        for state in reversed(problems[problem]):
            prices[problem][state] = least_cost(tally, prices, problem, state)
    return prices


def best_weave(tally, prices, problem):
    """Return a weave of a problem with the least price; the prices are the greatest."""
    state = first_state(problem)
    items = []
    sides = best_step(tally, prices, problem, state)
    while sides:
        items.append(item_for(tally, prices, problem, state, sides))
        state = state_behind(state, sides)
        sides = best_step(tally, prices, problem, state)
    return tuple(items)


def best_step(tally, prices, problem, state):
    """Return the sides of a step of least cost, none where all is done."""
    for sides in steps(tally, problem, state):
        if step_cost(tally, prices, problem, state, sides) == prices[problem][state]:
            return sides
    return ()


def item_for(tally, prices, problem, state, sides):
    """Return an item of least price for the next statements of these sides."""
    statement = tally.bodies[problem[sides[0]]][state[sides[0]]]
    if statement[0] == "set":
        return ("set", sides, statement[1], statement[2])
    inner = best_weave(tally, prices, problem_within(tally, problem, state, sides))
    return ("split" if statement[0] == "if" else "loop", sides, inner)


def has_states(problems, thing):
    """Tell whether a value is a dict from just these problems to dicts from just their states to integers from 0 on."""
    if not has_keys(list(problems), thing):
        return False
    return all(has_keys(problems[problem], thing[problem]) and has_costs(thing[problem]) for problem in problems)


def has_keys(keys, thing):
    """Tell whether a value is a dict with just these keys, and with no boolean for an integer in them."""
    if not isinstance(thing, dict) or len(thing) != len(keys):
        return False
    return all(key in thing for key in keys) and not any(has_boolean(key) for key in thing)


def has_boolean(thing):
    """Tell whether a value is a boolean or a tuple with one in it, however deep."""
    if isinstance(thing, tuple):
        return any(has_boolean(part) for part in thing)
    return isinstance(thing, bool)


def has_costs(table):
    """Tell whether the values of a dict are integers from 0 on."""
    return all(is_cost(table[state]) for state in table)


def is_cost(thing):
    """Tell whether a value is an integer from 0 on."""
    return isinstance(thing, int) and not isinstance(thing, bool) and thing >= 0


def shows_bounds(tally, problems, prices):
    """Tell whether no number is greater than the cost of a step with the number behind it."""
    for problem in problems:
        for state in problems[problem]:
            if prices[problem][state] > least_cost(tally, prices, problem, state):
                return False
    return True
