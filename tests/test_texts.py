"""Texts of kernels."""

import random
import re
import unittest
from itertools import product

from samples import Case, EXAMPLE, LOOP, NO_KERNELS, SET_X, SET_Y, STRANGE, deep, nested_left, nested_term
from slow import random_kernel, random_term, slow_lane
from sideweave import texts
from sideweave.alone import end, trace
from sideweave.errors import NoKernel, NoText
from sideweave.kernels import is_kernel
from sideweave.texts import read_kernel, write_kernel
from test_passes import drawn_kernels

EXAMPLE_TEXT = """out x
if a
  x = 1
  x = (x + b)
else
  x = (x + b)
end
"""
LARGE = (("i", "x", "y"), (
    ("while", ("<", "i", 2), (
        ("if", ("=", ("-", "a", 1), "b"), (("while", 0, ()),), (SET_X, ("if", 7, (), (SET_Y,)))),
        ("set", "i", ("+", "i", 1)))),
    ("if", "x", (("if", "y", (), ()),), ()),
))
LARGE_TEXT = """out i x y
while (i < 2)
  if ((a - 1) = b)
    while 0
    end
  else
    x = 1
    if 7
    else
      y = 2
    end
  end
  i = (i + 1)
end
if x
  if y
  else
  end
else
end
"""
OTHER_LINES = ("end", "else", "if a", "while a", "x = 1", "out x", "", "if = 1", "  end", "x = 65536")
SIGNS = " \n=+-*<()0123456789abcxyzifendoutAZ_.\t\r\x0b\x0c\x1c\x85\u2028\u00b2\u0663\u00e9"


def slow_term(term):
    if not isinstance(term, tuple):
        return str(term)
    return "(" + " ".join(map(slow_term, (term[1], term[0], term[2]))) + ")"


def slow_text(kernel):
    """Return the text of a kernel; what stands within a statement is written first, and then put further in."""
    return "".join(line + "\n" for line in [" ".join(("out", *kernel[0]))] + slow_lines(kernel[1]))


def slow_lines(body):
    found = []
    for statement in body:
        if statement[0] == "set":
            found.append(" ".join((statement[1], "=", slow_term(statement[2]))))
            continue
        inner = [["  " + line for line in slow_lines(part)] for part in statement[2:]]
        found += [" ".join((statement[0], slow_term(statement[1])))] + inner[0]
        found += (["else"] + inner[1] if statement[0] == "if" else []) + ["end"]
    return found


def lenient_term(text):
    """Return the term that is written in a text, however it is spaced; None if there is none."""
    words = re.findall(r"[a-z]+|[0-9]+|[-+*<=()]", text)[:200]

    def part():
        word = words.pop(0) if words else ")"
        if word != "(":
            return int(word[:9]) if word.isdigit() else word
        left, sign, right = part(), words.pop(0) if words else "", part()
        return (sign, left, right) if words and words.pop(0) == ")" else None

    found = part()
    return None if words else found


def lenient_kernel(text):
    """Return what may be the kernel of a text, or None; what it gives back is written again and compared."""
    lines = [line.strip(" ") for line in text.split("\n")]
    open_bodies, stack = [[]], []
    for line in lines[1:]:
        statement = re.fullmatch("([a-z]+) = (.*)", line)
        if statement:
            open_bodies[-1].append(("set", statement.group(1), lenient_term(statement.group(2))))
        elif line.startswith(("if ", "while ")):
            word, term = line.split(" ", 1)
            stack.append((word, lenient_term(term)))
            open_bodies.append([])
        elif line == "else" and stack and len(stack[-1]) == 2 and stack[-1][0] == "if":
            stack[-1] += (tuple(open_bodies[-1]),)
            open_bodies[-1] = []
        elif line == "end" and stack:
            body = tuple(open_bodies.pop())
            open_bodies[-1].append(stack.pop() + (body,))
        elif line:
            return None
    return None if stack else (tuple(lines[0].split(" ")[1:]), tuple(open_bodies[0]))


def is_text(text):
    """Tell whether a text is one of a kernel."""
    kernel = lenient_kernel(text)
    return is_kernel(kernel) and slow_text(kernel) == text


def all_closings():
    """Return all texts that close no body, or up to three bodies within one another."""
    found = []
    for levels in range(4):
        for ways in product((("end",), ("else", "end")), repeat=levels):
            lines = ["  " * (levels - at - 1) + word for at, way in enumerate(ways) for word in way]
            found.append("".join(line + "\n" for line in lines))
    return found


CLOSINGS = all_closings()


def slow_line(text):
    """Return the line that NoText tells, or None: the first one behind which no lines make a text of a kernel."""
    *lines, rest = text.split("\n")
    for many in range(1, len(lines) + 1):
        before = "".join(line + "\n" for line in lines[:many])
        # Bodies may be empty, so nothing but closing lines is needed.
        if not any(is_text(before + more) for more in CLOSINGS):
            return many
    return None if rest == "" and is_text(text) else len(lines) + 1


def changed(source, text):
    """Return a text with one small change."""
    lines = text.split("\n")
    at, other = source.randrange(len(lines)), source.randrange(len(lines))
    place = source.randrange(len(text) + 1)
    kind = source.randrange(11)
    if kind == 0:
        del lines[at]
    elif kind == 1:
        lines.insert(at, lines[other])
    elif kind == 2:
        lines[at], lines[other] = lines[other], lines[at]
    elif kind == 3:
        lines[at] = source.choice(("  ", " ")) + lines[at]
    elif kind == 4:
        lines[at] = lines[at].removeprefix("  ")
    elif kind == 5:
        lines[at] = source.choice(OTHER_LINES)
    elif kind == 6:
        return text[:place]
    elif kind == 7:
        return text[:place] + source.choice(SIGNS) + text[place:]
    elif kind == 8:
        return text[:place] + text[place + 1:]
    elif kind == 9:
        return text[:place] + source.choice(SIGNS) + text[place + 1:]
    else:
        return text + source.choice(("\n", "end\n", "x = 1\n", "x = 1", " ", "if a\n", "while x\n  if x\n"))
    return "\n".join(lines)


class TextCase(Case):
    def check(self, kernel, text):
        """Check that a kernel is written so, and read again."""
        self.assertEqual(self.call(write_kernel, kernel), text)
        found = self.call(read_kernel, text)
        self.assertEqual(found, kernel)
        self.assertEqual(repr(found), repr(kernel))
        self.is_true(is_kernel, found)

    def goes_wrong(self, line, text):
        """Check that NoText tells this line."""
        with self.assertRaises(NoText, msg=repr(text)[:200]) as caught:
            self.call(read_kernel, text)
        self.assertIs(caught.exception.__class__, NoText)
        self.assertEqual(caught.exception.line, line, repr(text)[:300])
        self.assertIs(caught.exception.line.__class__, int)
        if isinstance(text, str) and len(text) < 3000:
            self.assertEqual(slow_line(text), line)

    def set_goes_wrong(self, term):
        """Check that this is no term, wherever it stands."""
        self.goes_wrong(2, f"out x\nx = {term}\n")
        self.goes_wrong(2, f"out x\nif {term}\nelse\nend\n")
        self.goes_wrong(3, f"out x\nwhile a\n  while {term}\n  end\nend\n")
        self.goes_wrong(2, f"out x\nx = (1 + {term})\n")
        self.goes_wrong(2, f"out x\nx = ({term} + 1)\n")


class Written(TextCase):
    def test_interface(self):
        self.assertEqual({write_kernel.__module__, read_kernel.__module__}, {texts.__name__})

    def test_kernels_without_statements(self):
        self.check((("x",), ()), "out x\n")
        self.check((("a", "abcdefgh", "b", "if", "out"), ()), "out a abcdefgh b if out\n")
        self.check((tuple("abcdefgh"), ()), "out a b c d e f g h\n")

    def test_each_statement(self):
        self.check((("x",), (SET_X, SET_Y)), "out x\nx = 1\ny = 2\n")
        self.check(EXAMPLE, EXAMPLE_TEXT)
        self.check(LOOP, "out i\nwhile (i < 2)\n  i = (i + 1)\nend\n")

    def test_empty_bodies(self):
        self.check((("x",), (("if", "a", (), ()),)), "out x\nif a\nelse\nend\n")
        self.check((("x",), (("if", "a", (SET_X,), ()),)), "out x\nif a\n  x = 1\nelse\nend\n")
        self.check((("x",), (("if", "a", (), (SET_X,)),)), "out x\nif a\nelse\n  x = 1\nend\n")
        self.check((("x",), (("while", 0, ()), ("while", 1, ()))), "out x\nwhile 0\nend\nwhile 1\nend\n")

    def test_statements_within_statements(self):
        self.check(LARGE, LARGE_TEXT)

    def test_names_that_are_words(self):
        body = tuple(("set", name, name) for name in ("if", "else", "end", "out", "while", "set"))
        text = "if = if\nelse = else\nend = end\nout = out\nwhile = while\nset = set\n"
        self.check((("end", "if"), body), "out end if\n" + text)
        inner = "".join("  " + line + "\n" for line in text.splitlines())
        self.check((("x",), (("if", "if", body, body),)), "out x\nif if\n" + inner + "else\n" + inner + "end\n")
        self.check((("x",), (("while", "while", body),)), "out x\nwhile while\n" + inner + "end\n")
        self.check((("x",), (("while", "end", (("if", "else", (), ()),)),)),
                   "out x\nwhile end\n  if else\n  else\n  end\nend\n")
        self.check((("x",), (("set", "if", 5), ("set", "while", ("=", "if", "x")))),
                   "out x\nif = 5\nwhile = (if = x)\n")

    def test_terms(self):
        for term, text in ((0, "0"), (65535, "65535"), (10, "10"), ("abcdefgh", "abcdefgh"), (("+", 1, "a"), "(1 + a)"),
                           (("-", "a", 1), "(a - 1)"), (("*", 0, 0), "(0 * 0)"), (("<", "a", "b"), "(a < b)"),
                           (("=", "a", "b"), "(a = b)"), (("+", ("-", 1, 2), 3), "((1 - 2) + 3)"),
                           (("+", 1, ("-", 2, 3)), "(1 + (2 - 3))"),
                           (("<", ("*", "a", ("+", 1, 2)), ("=", "b", 0)), "((a * (1 + 2)) < (b = 0))"),
                           (nested_term(4), "(1 + (1 + (1 + (1 + a))))"),
                           (nested_left(4, "*"), "((((a * 1) * 1) * 1) * 1)")):
            self.check((("x",), (("set", "x", term),)), f"out x\nx = {text}\n")
            self.check((("x",), (("if", term, (), ()),)), f"out x\nif {text}\nelse\nend\n")
            self.check((("x",), (("while", term, ()),)), f"out x\nwhile {text}\nend\n")

    def test_great_kernels(self):
        self.check((("x",), (SET_X,) * 24), "out x\n" + "x = 1\n" * 24)
        term = deep(4, lambda inside: ("+", inside, inside), "abcdefgh")
        statement = ("set", "abcdefgh", term)
        inner = ("if", term, (("if", term, (statement,) * 21, ()),), ())
        for body in ((statement,) * 24, (("while", term, (inner,)),)):
            kernel = (tuple("abcdefg" + letter for letter in "abcdefgh"), body)
            text = slow_text(kernel)
            self.assertLess(len(text), 8000)
            self.check(kernel, text)

    def test_drawn_kernels(self):
        for kernel, launch in drawn_kernels(151, 150):
            self.check(kernel, slow_text(kernel))
            found = self.call(read_kernel, self.call(write_kernel, kernel))
            for lane in launch:
                self.assertEqual(end(found, lane), slow_lane(kernel, lane)[0])
                self.assertEqual(trace(found, lane), slow_lane(kernel, lane)[1])

    def test_what_is_no_kernel(self):
        for thing in NO_KERNELS:
            self.fails(NoKernel, write_kernel, thing)


class Lines(TextCase):
    def test_lines_that_are_missing(self):
        self.goes_wrong(1, "")
        for text in (EXAMPLE_TEXT, LARGE_TEXT):
            lines = text.splitlines(keepends=True)
            for many in range(len(lines)):
                before = "".join(lines[:many])
                if slow_line(before) is not None:
                    self.goes_wrong(many + 1, before)
        self.goes_wrong(1, "out x")
        self.goes_wrong(3, "out x\nif a\n")
        self.goes_wrong(4, "out x\nif a\nelse\n")
        self.goes_wrong(3, "out x\nwhile a\n")
        self.goes_wrong(5, "out x\nwhile a\n  while b\n  end\n")

    def test_a_last_line_without_its_newline(self):
        for text in (EXAMPLE_TEXT, LARGE_TEXT, "out x\n", "out x\nx = 1\n"):
            for place in range(1, len(text)):
                if text[place - 1] != "\n":
                    self.goes_wrong(text[:place].count("\n") + 1, text[:place])
        self.goes_wrong(2, "out x\nx = 1")
        self.goes_wrong(2, "out x\n ")
        # A line that goes wrong ahead of it is told first.
        self.goes_wrong(2, "out x\nx = \nx = 1")

    def test_lines_left_out_twice_and_exchanged(self):
        for text in (EXAMPLE_TEXT, LARGE_TEXT):
            lines = text.splitlines(keepends=True)
            for at in range(len(lines)):
                for other in [lines[:at] + lines[at + 1:], lines[:at] + lines[at:at + 1] + lines[at:],
                              lines[:at] + lines[at + 1:at + 2] + lines[at:at + 1] + lines[at + 2:]]:
                    thing = "".join(other)
                    line = slow_line(thing)
                    if line is not None:
                        self.goes_wrong(line, thing)
                    else:
                        self.assertEqual(write_kernel(self.call(read_kernel, thing)), thing)
        self.goes_wrong(1, "".join(EXAMPLE_TEXT.splitlines(keepends=True)[1:]))
        self.goes_wrong(6, EXAMPLE_TEXT.replace("else\n", ""))
        self.goes_wrong(6, EXAMPLE_TEXT.replace("else\n", "else\nelse\n"))
        self.goes_wrong(8, EXAMPLE_TEXT + "end\n")
        self.goes_wrong(2, "out x\nend\n")
        self.goes_wrong(2, "out x\nelse\n")
        self.goes_wrong(3, "out x\nwhile a\nelse\nend\n")
        self.goes_wrong(2, "out x\nout x\n")

    def test_blanks_and_newlines(self):
        for text in (EXAMPLE_TEXT, LARGE_TEXT):
            for place in range(len(text) + 1):
                line = text[:place].count("\n") + 1
                self.goes_wrong(line, text[:place] + " " + text[place:])
                # Without the blank between them two outputs are one.
                if line > 1 and text[place:place + 1] == " ":
                    self.goes_wrong(line, text[:place] + text[place + 1:])
                if place == len(text) or text[place] == "\n":
                    self.goes_wrong(line + (place < len(text)), text[:place] + "\n" + text[place:])
        for sign in "\t\r\x0b\x0c\x1c\x85\u2028\xa0":
            self.goes_wrong(2, f"out x\nx = 1{sign}\n")
            self.goes_wrong(2, f"out x\nx{sign}= 1\n")
            self.goes_wrong(2, f"out x\n{sign}x = 1\n")
            self.goes_wrong(1, f"out x{sign}x = 1\n")
            self.goes_wrong(1, f"out{sign}x\n")
        self.goes_wrong(1, "\nout x\n")
        self.goes_wrong(1, "out x\r\n")
        self.goes_wrong(2, "out x\n\n")
        self.goes_wrong(3, "out x\nx = 1\n\nx = 1\n")

    def test_how_far_lines_are_put_in(self):
        self.goes_wrong(2, "out x\n  x = 1\n")
        self.goes_wrong(3, "out x\nwhile a\nx = 1\nend\n")
        self.goes_wrong(3, "out x\nwhile a\n   x = 1\nend\n")
        self.goes_wrong(3, "out x\nwhile a\n    x = 1\nend\n")
        self.goes_wrong(3, "out x\nwhile a\n x = 1\nend\n")
        self.goes_wrong(3, "out x\nwhile a\n  end\nend\n")
        self.goes_wrong(4, "out x\nwhile a\n  while b\nend\n  end\n")
        self.goes_wrong(3, "out x\nif a\n  else\nend\n")
        self.goes_wrong(4, "out x\nif a\nelse\n  end\n")

    def test_outputs(self):
        for line in ("out", "out ", "", "x", "Out x", "out X", "out x x", "out b a", "out a c b", "out  x", " out x",
                     "out x ", "out abcdefghi", "out a b c d e f g h i", "out 1", "out x1", "out x, y", "outx", "x = 1",
                     "out x = 1",
                     "out a  b", "out (a + b)", "out a b a"):
            self.goes_wrong(1, line + "\n")
            self.goes_wrong(1, line + "\nx = 1\n")
        # What stands behind it does not matter then.
        self.goes_wrong(1, "out\nx = \nend")

    def test_sets(self):
        for line in ("x = ", "x =", "x", "= 1", " = 1", "x = 1 ", "x  = 1", "x =  1", "x=1", "x == 1", "X = 1", "1 = 1",
                     "abcdefghi = 1", "x = 1 + 2", "x = y = 1", "x = (1 + 2", "x = 1 + 2)", "x : 1", "x = a b",
                     "(x) = 1", "x = = 1", "= = 1", "x = ()", "x < 1", "x = 1 = 1", "x1 = 1", "a b = 1", "= x"):
            self.goes_wrong(2, f"out x\n{line}\n")
            self.goes_wrong(3, f"out x\nwhile a\n  {line}\nend\n")

    def test_ifs_and_whiles(self):
        for word in ("if", "while"):
            for line in (word, word + " ", word + "  a", word + " a ", word + " a b", word + " =", word + " = ",
                         word + "a", word + " (a)", word + " a = b", word + " A", word.upper() + " a", word + ": a"):
                self.goes_wrong(2, f"out x\n{line}\nend\n")
        for line in ("for a", "else a", "end a", "elif a", "loop a", "end ", "else ", "if if if", "while end end"):
            self.goes_wrong(2, f"out x\n{line}\nend\n")

    def test_numbers(self):
        for term in ("65536", "99999", "100000", "00", "01", "007", "0000000", "065535", "-1", "+1", "1.0", "1e3",
                     "0x10", "1_000", "\u00b2", "\u0663", "1" * 4300, "9" * 5000, "0" * 4999 + "1", "1" * 20):
            self.set_goes_wrong(term)

    def test_terms(self):
        for term in ("", " ", "(", ")", "()", "(a)", "(a +)", "(+ a)", "(a + )", "( + a)", "(a b)", "(a + b", "a + b)",
                     "a + b", "(a  + b)", "(a +  b)", "( a + b)", "(a + b )", "(a+b)", "(a / b)", "(a % b)",
                     "(a == b)", "(a <= b)", "(a > b)", "(a + b + c)", "((a + b)", "(a + b))",
                     "(a + b) + (c + d)", "((a + b))", "(a) + (b)",
                     "[a + b]", "{a + b}", "(a,b)", "(a  b)", "(a   b)", "(a ( b)", "(a ) b)", "A", "a1", "abcdefghi",
                     "a.b", "\u00e9", "(a + \u0430)", "None", "True", "(", "((((((((", "(" * 2000, ")" * 2000,
                     "(a + " * 1000):
            self.set_goes_wrong(term)

    def test_operators_within_operators(self):
        five = "(1 + (1 + (1 + (1 + (1 + a)))))"
        self.goes_wrong(2, f"out x\nx = {five}\n")
        self.goes_wrong(2, f"out x\nif {five}\nelse\nend\n")
        self.goes_wrong(2, "out x\nx = (((((a + 1) + 1) + 1) + 1) + 1)\n")
        self.goes_wrong(2, "out x\nx = " + "(a + " * 500 + "a" + ")" * 500 + "\n")


class Limits(TextCase):
    def test_twenty_five_statements(self):
        self.goes_wrong(26, "out x\n" + "x = 1\n" * 25)
        self.goes_wrong(26, "out x\n" + "x = 1\n" * 300)
        self.goes_wrong(26, "out x\n" + "x = 1\n" * 24 + "if a\nelse\nend\n")
        self.goes_wrong(26, "out x\n" + "x = 1\n" * 23 + "while a\n  x = 1\nend\n")
        self.goes_wrong(27, "out x\n" + "x = 1\n" * 23 + "if a\nelse\n  x = 1\nend\n")
        self.goes_wrong(28, "out x\nif a\n" + "  x = 1\n" * 23 + "else\nend\n" + "x = 1\n")
        self.assertIsNone(slow_line("out x\nif a\n" + "  x = 1\n" * 23 + "else\nend\n"))

    def test_four_ifs_and_whiles_within_one_another(self):
        def nest(words):
            return "".join("  " * at + word + " a\n" for at, word in enumerate(words))

        for words in product(("if", "while"), repeat=4):
            # The third if, or the fourth of either, goes wrong.
            ifs = [at for at, word in enumerate(words) if word == "if"]
            line = min(ifs[2:3] + [3]) + 2
            self.goes_wrong(line, "out x\n" + nest(words))
            self.goes_wrong(line, "out x\n" + nest(words) + "x = \n")
            self.goes_wrong(line, "out x\n" + nest(words[:line - 2]) + "  " * (line - 2) + words[line - 2] + " 1")
        # It means nothing in which body of an if the next one stands.
        self.goes_wrong(6, "out x\nif a\nelse\n  if a\n  else\n    if a\n")
        self.goes_wrong(5, "out x\nif a\n  if a\n  else\n    if a\n")
        self.goes_wrong(5, "out x\nif a\nelse\n  if a\n    if a\n")
        self.goes_wrong(7, "out x\nif a\nelse\n  if a\n  else\n    while a\n      while a\n")
        # Those that stand beside each other do not count.
        self.check((("x",), (("if", 1, (("if", 2, (), ()),), (("if", 3, (), ()),)), ("if", 4, (), ()))),
                   "out x\nif 1\n  if 2\n  else\n  end\nelse\n  if 3\n  else\n  end\nend\nif 4\nelse\nend\n")
        inner = ("while", 1, (("while", 2, (("while", 3, ()),)),))
        self.check((("x",), (inner, inner)), "out x\n" + slow_text((("x",), (inner,)))[6:] * 2)

    def test_nine_outputs(self):
        self.goes_wrong(1, "out a b c d e f g h i\n")
        self.assertEqual(self.call(read_kernel, "out a b c d e f g h\n"), (tuple("abcdefgh"), ()))

    def test_what_is_no_string(self):
        for thing in STRANGE + (EXAMPLE, [EXAMPLE_TEXT], (EXAMPLE_TEXT,), {0: EXAMPLE_TEXT}, [], 5):
            if not isinstance(thing, str):
                self.goes_wrong(0, thing)

    def test_just_eight_thousand_characters_and_more(self):
        self.goes_wrong(0, "x" * 8001)
        self.goes_wrong(0, "x" * 9000)
        self.goes_wrong(1, "x" * 8000)
        self.goes_wrong(1, "x" * 7999)
        more = EXAMPLE_TEXT + "x = " + "0" * 8000
        self.goes_wrong(8, more[:7999] + "\n")
        self.goes_wrong(8, more[:8000])
        self.goes_wrong(0, more[:8000] + "\n")
        self.goes_wrong(0, "out x\n" * 1334)
        self.goes_wrong(2, "out x\n" * 1333)
        self.goes_wrong(1, "\n" * 8000)
        self.goes_wrong(0, "\n" * 8001)
        self.goes_wrong(26, "out x\n" + "x = 1\n" * 1332)


class Drawn(TextCase):
    def test_changed_texts(self):
        source = random.Random(152)
        right = wrong = 0
        for kernel, _ in drawn_kernels(153, 60):
            text = slow_text(kernel)
            for _ in range(25):
                thing = changed(source, text)
                for _ in range(source.randrange(3)):
                    thing = changed(source, thing)
                line = slow_line(thing)
                if line is None:
                    self.assertEqual(self.call(write_kernel, self.call(read_kernel, thing)), thing)
                    right += 1
                else:
                    self.goes_wrong(line, thing)
                    wrong += 1
        self.assertGreater(right, 80)
        self.assertGreater(wrong, 800)

    def test_terms_with_a_change(self):
        source = random.Random(154)
        for _ in range(300):
            term = random_term(source, ("a", "bc", 65535), 4)
            thing = changed(source, f"out x\nx = {slow_term(term)}\n")
            line = slow_line(thing)
            if line is None:
                self.assertEqual(self.call(write_kernel, self.call(read_kernel, thing)), thing)
            else:
                self.goes_wrong(line, thing)

    def test_kernels_give_different_texts(self):
        source = random.Random(155)
        seen = {}
        for _ in range(300):
            kernel = random_kernel(source, 3)
            text = self.call(write_kernel, kernel)
            self.assertEqual(seen.setdefault(text, kernel), kernel)


if __name__ == "__main__":
    unittest.main()
