"""Orders of bodies of sets, the best ones for a weave of two, and floors that show that none are better."""

from sideweave.errors import NoBodies, TooMany
from sideweave.kernels import has_form
from sideweave.tables import is_table_of
from sideweave.terms import names_of

MOST_SETS = 6
MOST_PAIRS = 3000
NOTHING_DONE = ((), ())


class Closed:
    """A body of sets: for each of its statements, the earlier ones that touch it; and its closed sets.

    Of the closed sets, those that are contained in another one stand ahead of it.
    """

    def __init__(self, body):
        self.body = body
        self.needs = [[at for at in range(number) if touch(body[at], body[number])] for number in range(len(body))]
        self.closed = [()]
        for more in range(len(body)):
            self.closed = self.closed + [done + (more,) for done in self.closed if self.may_follow(more, done)]

    def may_follow(self, number, done):
        """Tell whether all earlier statements that touch this one are in a closed set."""
        return all(at in done for at in self.needs[number])

    def next_numbers(self, done):
        """Return the list of the statements each of which makes another closed set of this one."""
        return [number for number in range(len(self.body)) if number not in done and self.may_follow(number, done)]


def best_orders(one, other):
    """Return the fewest items of a weave of orders of two bodies, such orders, their weave, and a floor."""
    sides = sides_of(one, other)
    table = greatest_floor(sides)
    taken = steps_by(sides, table)
    orders = [tuple([side.body[number] for step in taken for number in step[at]]) for at, side in enumerate(sides)]
    weave = tuple([item_of(sides, step) for step in taken])
    return table[NOTHING_DONE], orders[0], orders[1], weave, table


def is_order(body, thing):
    """Tell whether a value is an order of a body."""
    check_sets(body)
    if not is_sets(thing) or len(thing) != len(body):
        return False
    side = Closed(body)
    done = []
    for statement in thing:
        # Equal sets touch each other, so there is one number for the statement at most.
        numbers = [number for number in side.next_numbers(done) if body[number] == statement]
        if not numbers:
            return False
        done.append(numbers[0])
    return True


def is_floor(one, other, thing):
    """Tell whether a value is a floor of two bodies."""
    sides = sides_of(one, other)
    pairs = pairs_of(sides)
    return is_table_of(pairs, thing) and all(thing[pair] <= fewest_from(sides, thing, pair) for pair in pairs)


def is_sets(thing):
    """Tell whether a value is a body of at most six sets."""
    if not isinstance(thing, tuple) or len(thing) > MOST_SETS:
        return False
    return all(has_form(statement) and statement[0] == "set" for statement in thing)


def check_sets(thing):
    """Raise NoBodies for what is no body of at most six sets."""
    if not is_sets(thing):
        raise NoBodies("this is no body of at most six sets")


def sides_of(one, other):
    """Return two bodies with their closed sets, as a list; raise NoBodies for what is none of at most six sets."""
    check_sets(one)
    check_sets(other)
    return [Closed(one), Closed(other)]


def touch(one, other):
    """Tell whether one of two sets sets a register that the other one sets or reads."""
    return one[1] == other[1] or one[1] in names_of(other[2]) or other[1] in names_of(one[2])


def pairs_of(sides):
    """Return the list of all pairs of closed sets, each ahead of those behind its steps."""
    if len(sides[0].closed) * len(sides[1].closed) > MOST_PAIRS:
        raise TooMany("there are too many pairs of closed sets")
    return [(one, other) for one in sides[0].closed for other in sides[1].closed]


def steps_from(sides, pair):
    """Return the steps from a pair, each as a pair of tuples: the statements that it takes of either body."""
    mine, theirs = [side.next_numbers(done) for side, done in zip(sides, pair)]
    one, other = [side.body for side in sides]
    both = [((number,), (beside,)) for number in mine for beside in theirs if one[number] == other[beside]]
    return both + [((number,), ()) for number in mine] + [((), (number,)) for number in theirs]


def pair_behind(pair, step):
    """Return the pair behind a step."""
    return tuple(sorted(pair[0] + step[0])), tuple(sorted(pair[1] + step[1]))


def fewest_from(sides, table, pair):
    """Return what the number for a pair is at most, by the numbers behind it; 0 where both are whole."""
    behind = [table[pair_behind(pair, step)] for step in steps_from(sides, pair)]
    return 1 + min(behind) if behind else 0


def greatest_floor(sides):
    """Return the floor whose numbers are as great as they can be: the fewest items from there on."""
    table = {}
    for pair in reversed(pairs_of(sides)):
        table[pair] = fewest_from(sides, table, pair)
    return table


def steps_by(sides, table):
    """Return the list of as few steps as the greatest floor tells, from the beginning to the whole bodies."""
    pair = NOTHING_DONE
    taken = []
    while table[pair] != 0:
        best = [step for step in steps_from(sides, pair) if table[pair_behind(pair, step)] == table[pair] - 1]
        taken.append(best[0])
        pair = pair_behind(pair, best[0])
    return taken


def item_of(sides, step):
    """Return the item of a weave for a step."""
    places = tuple([at for at in (0, 1) if step[at]])
    statement = sides[places[0]].body[step[places[0]][0]]
    return ("set", places, statement[1], statement[2])
