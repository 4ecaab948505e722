"""Texts: kernels written as lines, and read again."""

from sideweave.errors import NoText
from sideweave.kernels import MOST_IFS_NESTED, MOST_NESTED, MOST_STATEMENTS, check_kernel, is_outputs
from sideweave.terms import MODULUS, MOST_OPERATORS_DEEP, OPERATORS, is_name

MOST_CHARACTERS = 8000
MOST_FIGURES = 5
INDENT = "  "


def write_kernel(kernel):
    """Return the text of a kernel."""
    check_kernel(kernel)
    outputs, body = kernel
    lines = [" ".join(("out",) + outputs)] + written_body(body, "")
    return "".join([line + "\n" for line in lines])


def written_body(body, blanks):
    """Return the list of the lines of a body, each with these blanks ahead of it."""
    return [line for statement in body for line in written_statement(statement, blanks)]


def written_statement(statement, blanks):
    """Return the list of the lines of a statement."""
    if statement[0] == "set":
        return [f"{blanks}{statement[1]} = {written_term(statement[2])}"]
    lines = [f"{blanks}{statement[0]} {written_term(statement[1])}"] + written_body(statement[2], blanks + INDENT)
    if statement[0] == "if":
        lines = lines + [blanks + "else"] + written_body(statement[3], blanks + INDENT)
    return lines + [blanks + "end"]


def written_term(term):
    """Return a term as it is written."""
    if isinstance(term, tuple):
        return f"({written_term(term[1])} {term[0]} {written_term(term[2])})"
    return str(term)


def read_kernel(text):
    """Return the kernel that is written in a text; raise NoText with the first line that goes wrong."""
    if not isinstance(text, str) or len(text) > MOST_CHARACTERS:
        raise NoText(0)
    lines = text.split("\n")
    # Behind the last newline nothing stands; a line without its newline goes wrong where it begins.
    rest = lines.pop()
    reader = Reader(lines)
    outputs = reader.take_outputs()
    body = reader.take_body(None, "", MOST_IFS_NESTED)
    if rest:
        raise NoText(reader.number)
    return outputs, body


class Reader:
    """Lines that are read one after the other, with the number of the last one that was taken."""

    def __init__(self, lines):
        self.lines = lines
        self.number = 0
        self.room = MOST_STATEMENTS

    def take(self):
        """Take the next line and return it, or None behind the last one, which counts as one line more."""
        self.number += 1
        return self.lines[self.number - 1] if self.number <= len(self.lines) else None

    def take_outputs(self):
        """Take the first line, and return the outputs in it."""
        line = self.take()
        words = [] if line is None else line.split(" ")
        if words[:1] != ["out"] or not is_outputs(tuple(words[1:])):
            raise NoText(self.number)
        return tuple(words[1:])

    def take_body(self, closing, blanks, ifs):
        """Take lines up to the closing one, and return the body in those ahead of it.

        They have these blanks ahead of them; so many ifs may still stand within one another.
        """
        statements = []
        line = self.take()
        while line != closing:
            statements.append(self.take_statement(line, blanks, ifs))
            line = self.take()
        return tuple(statements)

    def take_statement(self, line, blanks, ifs):
        """Take the rest of the statement that begins with a line, and return it."""
        row = None if line is None or not line.startswith(blanks) else read_row(line[len(blanks):])
        self.room -= 1
        if row is None or self.room < 0:
            raise NoText(self.number)
        if row[0] == "set":
            return row
        inner = blanks + INDENT
        if len(inner) > MOST_NESTED * len(INDENT) or (row[0] == "if" and ifs == 0):
            raise NoText(self.number)
        if row[0] == "while":
            return row + (self.take_body(blanks + "end", inner, ifs),)
        first = self.take_body(blanks + "else", inner, ifs - 1)
        return row + (first, self.take_body(blanks + "end", inner, ifs - 1))


def read_row(line):
    """Return the set, or the beginning of an if or a while, in a line without its blanks; None if there is none."""
    word, _, rest = line.partition(" ")
    if word in ("if", "while"):
        term = read_term(rest, MOST_OPERATORS_DEEP)
        if term is not None:
            return (word, term)
    # Otherwise the word may be a name: "if = 5" is a set.
    name, _, rest = line.partition(" = ")
    term = read_term(rest, MOST_OPERATORS_DEEP)
    return ("set", name, term) if is_name(name) and term is not None else None


def read_term(text, levels):
    """Return the term that is written so, with operators at most this many levels deep; None if it is none."""
    if text.startswith("("):
        return read_operator(text, levels)
    return text if is_name(text) else read_number(text)


def read_operator(text, levels):
    """Return the term that is written so and begins with a parenthesis; None if it is none."""
    if levels == 0 or not text.endswith(")"):
        return None
    inside = text[1:-1]
    at = first_blank(inside)
    sign = inside[at + 1:at + 2]
    if sign not in OPERATORS or inside[at:at + 3] != f" {sign} ":
        return None
    left = read_term(inside[:at], levels - 1)
    right = read_term(inside[at + 3:], levels - 1)
    return None if left is None or right is None else (sign, left, right)


def first_blank(text):
    """Return the place of the first blank outside of parentheses, or the place behind the text."""
    deep = 0
    for at, sign in enumerate(text):
        if sign == " " and deep == 0:
            return at
        if sign == "(":
            deep += 1
        elif sign == ")":
            deep -= 1
    return len(text)


def read_number(text):
    """Return the number that is written so, without zeros ahead of it; None if it is none."""
    # Looked at before it is worked out, for a text may have thousands of figures.
    if not 1 <= len(text) <= MOST_FIGURES or not all("0" <= figure <= "9" for figure in text):
        return None
    number = int(text)
    return number if number < MODULUS and str(number) == text else None
