"""Renamings of the registers that a body of sets has for itself, and the best one for a weave with another body."""

from sideweave.errors import NoBodies, TooMany
from sideweave.orders import check_sets
from sideweave.tables import first_state
from sideweave.terms import is_name, names_of
from sideweave.traces import greatest_table, way_by

MOST_NAMES = 8
MOST_RENAMED = 4


def best_names(one, other, names):
    """Return the fewest items of a weave of one body and the other one renamed, with the renaming and all of it."""
    check_arguments(one, other, names)
    sources = own_names(other, names)
    if len(sources) > MOST_RENAMED:
        raise TooMany("there are too many names to be renamed")
    candidates = renamings(sources, goals_for(one, other, names))
    numbers = [fewest_items(one, renamed(other, renaming)) for renaming in candidates]
    number = min(numbers)
    best = candidates[numbers.index(number)]
    body = renamed(other, best)
    return number, best, body, weave_of(one, body)


def is_renaming(one, other, names, thing):
    """Tell whether a value is a renaming of the second of two bodies."""
    check_arguments(one, other, names)
    sources = own_names(other, names)
    goals = goals_for(one, other, names)
    if not isinstance(thing, dict) or not all(name in sources for name in thing):
        return False
    return all(goal in goals for goal in thing.values()) and len(set(list(thing.values()))) == len(thing)


def check_arguments(one, other, names):
    """Raise NoBodies for what are no bodies of at most six sets, and no names."""
    check_sets(one)
    check_sets(other)
    if not isinstance(names, tuple) or len(names) > MOST_NAMES or not all(is_name(name) for name in names):
        raise NoBodies("this is no tuple of up to eight names")
    if not all(names[at - 1] < names[at] for at in range(1, len(names))):
        raise NoBodies("these names do not ascend")


def own_names(body, names):
    """Return the list of the names that are set in a body before they are read there, and are not among the names."""
    found = []
    seen = {}
    for _, name, term in body:
        for read in names_of(term):
            seen[read] = True
        if name not in seen and name not in names:
            found.append(name)
        seen[name] = True
    return found


def goals_for(one, other, names):
    """Return the list of the names that those of the second body may be renamed to."""
    used = {}
    for _, name, term in other:
        used[name] = True
        for read in names_of(term):
            used[read] = True
    return [name for name in own_names(one, names) if name not in used]


def renamings(sources, goals):
    """Return the list of all dicts from some of these sources to different goals."""
    found = [{}]
    for name in sources:
        found = found + [{**chosen, name: goal} for chosen in found for goal in goals
                         if goal not in list(chosen.values())]
    return found


def renamed(body, renaming):
    """Return a body with its names renamed."""
    return tuple([("set", renaming.get(name, name), renamed_term(term, renaming)) for _, name, term in body])


def renamed_term(term, renaming):
    """Return a term with its names renamed."""
    if isinstance(term, int):
        return term
    if isinstance(term, str):
        return renaming.get(term, term)
    return (term[0], renamed_term(term[1], renaming), renamed_term(term[2], renaming))


def fewest_items(one, other):
    """Return the fewest items of a weave of two bodies of sets."""
    traces = [list(one), list(other)]
    return greatest_table(traces)[first_state(traces)]


def weave_of(one, other):
    """Return a weave of two bodies of sets with the fewest items."""
    traces = [list(one), list(other)]
    way = way_by(traces, greatest_table(traces))
    return tuple([("set", takers, row[1], row[2]) for row, takers in way])
