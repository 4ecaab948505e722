"""Ways of traces: rows that several traces take together, and tables that show that none is shorter."""

from sideweave.errors import NoTraces
from sideweave.tables import first_state, is_table_of, state_behind, states_up_to, steps_among
from sideweave.terms import is_name, is_term
from sideweave.weaves import count_done, is_choice

MOST_TRACES = 3
MOST_PLACES = 3000


def fewest_ways(traces):
    """Return the fewest entries of a way of some traces, such a way, and a table that shows it."""
    check_traces(traces)
    table = greatest_table(traces)
    return table[first_state(traces)], way_by(traces, table), table


def is_way(traces, thing):
    """Tell whether a value is a way of these traces."""
    check_traces(traces)
    if not isinstance(thing, list):
        return False
    places = [0] * len(traces)
    for entry in thing:
        if not is_entry(entry, len(traces)):
            return False
        row, takers = entry
        if not all(traces[taker][places[taker]:places[taker] + 1] == [row] for taker in takers):
            return False
        count_done(places, takers)
    return places == lengths_of(traces)


def is_table(traces, thing):
    """Tell whether a value is a table of these traces."""
    check_traces(traces)
    states = states_up_to(lengths_of(traces), MOST_PLACES)
    return is_table_of(states, thing) and all(thing[places] <= fewest_from(traces, thing, places) for places in states)


def check_traces(thing):
    """Raise NoTraces for what is no list of one to three lists of rows."""
    if not isinstance(thing, list) or not 1 <= len(thing) <= MOST_TRACES:
        raise NoTraces("this is no list of one to three traces")
    for trace in thing:
        if not isinstance(trace, list) or not all(is_row(row) for row in trace):
            raise NoTraces("one of these is no list of rows")


def is_row(thing):
    """Tell whether a value is a row."""
    if not isinstance(thing, tuple) or len(thing) not in (2, 3):
        return False
    if thing[0] == "set":
        return len(thing) == 3 and is_name(thing[1]) and is_term(thing[2])
    return thing[0] == "test" and len(thing) == 2 and is_term(thing[1])


def is_entry(thing, many):
    """Tell whether a value is an entry of a way of so many traces, whichever rows they have."""
    return isinstance(thing, tuple) and len(thing) == 2 and is_row(thing[0]) and is_choice(thing[1], many)


def lengths_of(traces):
    """Return the list of the lengths of traces: the places at their ends."""
    return [len(trace) for trace in traces]


def takings(traces, places):
    """Return the tuples of traces that may take a row from these places on."""
    return steps_among([trace[place] if place < len(trace) else None for trace, place in zip(traces, places)])


def fewest_from(traces, table, places):
    """Return what the number for these places is at most, by the numbers behind them; 0 at the ends."""
    behind = [table[state_behind(places, takers)] for takers in takings(traces, places)]
    return 1 + min(behind) if behind else 0


def greatest_table(traces):
    """Return the table whose numbers are as great as they can be: the fewest entries from there on."""
    table = {}
    for places in reversed(states_up_to(lengths_of(traces), MOST_PLACES)):
        table[places] = fewest_from(traces, table, places)
    return table


def way_by(traces, table):
    """Return a way with as many entries as the greatest table tells."""
    places = first_state(traces)
    way = []
    while table[places] != 0:
        takers = best_taking(traces, table, places)
        way.append((traces[takers[0]][places[takers[0]]], takers))
        places = state_behind(places, takers)
    return way


def best_taking(traces, table, places):
    """Return the traces that take a row on a way with the fewest entries, from places that are not the ends."""
    best = [takers for takers in takings(traces, places)
            if table[state_behind(places, takers)] == table[places] - 1]
    return best[0]
