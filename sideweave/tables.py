"""States, the steps between them, and what tables from states to integers have in common."""

from sideweave.errors import TooMany
from sideweave.terms import is_count


def first_state(sides):
    """Return the state in which nothing of these sides is done."""
    return (0,) * len(sides)


def state_behind(state, sides):
    """Return the state in which one more is done on each of these sides."""
    return tuple([done + 1 if side in sides else done for side, done in enumerate(state)])


def states_up_to(lengths, most):
    """Return the ascending list of all states of sides with these lengths; raise TooMany for more than most."""
    many = 1
    for length in lengths:
        many = many * (length + 1)
    # Counted first, for as they stand the states of a few sides may be many thousands.
    if many > most:
        raise TooMany("there are too many states")
    states = [()]
    for length in lengths:
        states = [state + (done,) for state in states for done in range(length + 1)]
    return states


def steps_among(heads):
    """Return the steps, each an ascending tuple of sides, that take sides with equal heads; None is no head."""
    alike = {}
    for side, head in enumerate(heads):
        if head is not None:
            alike.setdefault(head, []).append(side)
    return [sides for together in alike.values() for sides in choices(together)]


def choices(together):
    """Return all ascending tuples of one or more of these sides, which ascend."""
    found = [()]
    for side in together:
        found = found + [chosen + (side,) for chosen in found]
    return found[1:]


def is_table_of(keys, thing):
    """Tell whether a value is a dict from just these keys to integers from 0 on."""
    return has_keys(keys, thing) and all(is_count(thing[key]) for key in thing)


def has_keys(keys, thing):
    """Tell whether a value is a dict with just these keys, and with no boolean for an integer in them."""
    if not isinstance(thing, dict) or len(thing) != len(keys):
        return False
    return all(key in thing for key in keys) and not any(has_boolean(key) for key in thing)


def has_boolean(thing):
    """Tell whether a value is a boolean or a tuple with one in it, however deep."""
    if isinstance(thing, tuple):
        return any(has_boolean(part) for part in thing)
    return isinstance(thing, bool)
