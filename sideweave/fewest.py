"""The least price of a weave, a weave that has it, and prices that show that none is cheaper."""

from sideweave.kernels import check_kernel
from sideweave.prices import FIRST_PROBLEM, check_launches, problem_within, rows_price, tally_of
from sideweave.tables import first_state, has_keys, is_table_of, state_behind, states_up_to, steps_among

MOST_STATES = 400
MOST_STATES_IN_ALL = 1500


def fewest(kernel, launches):
    """Return the least price of a weave of the kernel for launches, such a weave, and prices."""
    check_kernel(kernel)
    check_launches(launches)
    tally = tally_of(kernel, launches)
    prices = least_prices(tally, problems_of(tally))
    return prices[FIRST_PROBLEM][first_state(FIRST_PROBLEM)], best_weave(tally, prices, FIRST_PROBLEM), prices


def is_prices(kernel, launches, thing):
    """Tell whether a value is prices of the kernel and the launches."""
    check_kernel(kernel)
    check_launches(launches)
    tally = tally_of(kernel, launches)
    problems = problems_of(tally)
    return has_states(problems, thing) and shows_bounds(tally, problems, thing)


def problems_of(tally):
    """Return a dict from the problems that prices must contain to their states, outer problems first."""
    problems = {}
    room = MOST_STATES_IN_ALL
    level = [FIRST_PROBLEM]
    while level:
        deeper = {}
        for problem in level:
            problems[problem] = states_of(tally, problem, min(room, MOST_STATES))
            room = room - len(problems[problem])
            for inner in problems_inside(tally, problem, problems[problem]):
                deeper[inner] = True
        level = list(deeper)
    return problems


def states_of(tally, problem, room):
    """Return the ascending list of the states of a problem; raise TooMany if there are more than room."""
    return states_up_to([len(tally.bodies[path]) for path in problem], room)


def problems_inside(tally, problem, states):
    """Return the list of the problems of all splits and loops of steps from these states."""
    found = [problem_within(tally, problem, state, sides) for state in states for sides in steps(tally, problem, state)]
    return [inner for inner in found if inner]


def steps(tally, problem, state):
    """Return the steps from a state of a problem, each as the ascending tuple of its sides."""
    return steps_among([head_of(tally.bodies[path], done) for path, done in zip(problem, state)])


def head_of(body, done):
    """Return what the next statements of sides must have in common for a step, or None where all is done."""
    if done == len(body):
        return None
    statement = body[done]
    return statement if statement[0] == "set" else statement[0]


def step_cost(tally, prices, problem, state, sides):
    """Return the cost of a step, taken from these prices, and the number behind it."""
    cost = rows_price(tally, problem, state, sides) + prices[problem][state_behind(state, sides)]
    inner = problem_within(tally, problem, state, sides)
    return cost + prices[inner][first_state(inner)] if inner else cost


def least_cost(tally, prices, problem, state):
    """Return the least cost of a step from a state, with the number behind it; 0 where all is done."""
    return min([step_cost(tally, prices, problem, state, sides) for sides in steps(tally, problem, state)], default=0)


def least_prices(tally, problems):
    """Return the prices that are as great as prices can be."""
    prices = {}
    for problem in reversed(list(problems)):
        prices[problem] = {}
        for state in reversed(problems[problem]):
            prices[problem][state] = least_cost(tally, prices, problem, state)
    return prices


def best_weave(tally, prices, problem):
    """Return a weave of a problem with the least price; the prices are the greatest."""
    state = first_state(problem)
    items = []
    sides = best_step(tally, prices, problem, state)
    while sides:
        items.append(item_for(tally, prices, problem, state, sides))
        state = state_behind(state, sides)
        sides = best_step(tally, prices, problem, state)
    return tuple(items)


def best_step(tally, prices, problem, state):
    """Return the sides of a step of least cost, none where all is done."""
    for sides in steps(tally, problem, state):
        if step_cost(tally, prices, problem, state, sides) == prices[problem][state]:
            return sides
    return ()


def item_for(tally, prices, problem, state, sides):
    """Return an item of least price for the next statements of these sides."""
    statement = tally.bodies[problem[sides[0]]][state[sides[0]]]
    if statement[0] == "set":
        return ("set", sides, statement[1], statement[2])
    inner = best_weave(tally, prices, problem_within(tally, problem, state, sides))
    return ("split" if statement[0] == "if" else "loop", sides, inner)


def has_states(problems, thing):
    """Tell whether a value is a dict from just these problems to dicts from just their states to integers from 0 on."""
    if not has_keys(list(problems), thing):
        return False
    return all(is_table_of(problems[problem], thing[problem]) for problem in problems)


def shows_bounds(tally, problems, prices):
    """Tell whether no number is greater than the cost of a step with the number behind it."""
    for problem in problems:
        for state in problems[problem]:
            if prices[problem][state] > least_cost(tally, prices, problem, state):
                return False
    return True
