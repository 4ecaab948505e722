"""Terms: numbers, names, and operators between terms."""

from sideweave.errors import NoLaunch, NoTerm

MODULUS = 65536
OPERATORS = ("+", "-", "*", "<", "=")
MOST_OPERATORS_DEEP = 4
MOST_LETTERS = 8
MOST_REGISTERS = 60


def is_count(thing):
    """Tell whether a value is an integer from 0 on."""
    return isinstance(thing, int) and not isinstance(thing, bool) and thing >= 0


def is_number(thing):
    """Tell whether a value is a number: an integer from 0 to 65535."""
    return is_count(thing) and thing < MODULUS


def is_name(thing):
    """Tell whether a value is a name: one to eight of the letters a to z."""
    if not isinstance(thing, str) or not 1 <= len(thing) <= MOST_LETTERS:
        return False
    return all("a" <= letter <= "z" for letter in thing)


def is_term(thing):
    """Tell whether a value is a term."""
    return is_term_within(thing, MOST_OPERATORS_DEEP)


def is_term_within(thing, levels):
    """Tell whether a value is a term with operators at most this many levels deep."""
    if not isinstance(thing, tuple):
        return is_number(thing) or is_name(thing)
    if levels == 0 or len(thing) != 3 or thing[0] not in OPERATORS:
        return False
    return is_term_within(thing[1], levels - 1) and is_term_within(thing[2], levels - 1)


def is_registers(thing, most):
    """Tell whether a value is a dict from at most this many names to numbers."""
    if not isinstance(thing, dict) or len(thing) > most:
        return False
    return all(is_name(name) and is_number(thing[name]) for name in thing)


def check_term(thing):
    """Raise NoTerm for what is no term."""
    if not is_term(thing):
        raise NoTerm("this is no term")


def value(term, registers):
    """Return the number that a term stands for, with these registers."""
    check_term(term)
    if not is_registers(registers, MOST_REGISTERS):
        raise NoLaunch("these are no registers")
    return worked_out(term, registers)


def worked_out(term, registers):
    """Return the value of a term; the term and the registers have been checked."""
    if isinstance(term, int):
        return term
    if isinstance(term, str):
        return registers.get(term, 0)
    sign, left, right = term
    return combined(sign, worked_out(left, registers), worked_out(right, registers))


def combined(sign, left, right):
    """Return what an operator makes of two numbers."""
    if sign == "+":
        return (left + right) % MODULUS
    if sign == "-":
        return (left - right) % MODULUS
    if sign == "*":
        return (left * right) % MODULUS
    if sign == "<":
        return int(left < right)
    return int(left == right)


def names_of(term):
    """Return the names in a term, ascending, each once."""
    check_term(term)
    return tuple(sorted(set(names_within(term))))


def names_within(term):
    """Return the list of the names in a term, in their order there; the term has been checked."""
    if isinstance(term, int):
        return []
    if isinstance(term, str):
        return [term]
    return names_within(term[1]) + names_within(term[2])
