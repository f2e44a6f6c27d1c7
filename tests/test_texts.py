"""[3] to [5]: names, spoken circuits and their texts."""

import random
import re
import string
import unittest

from sparkboard.circuits import Circuit
from sparkboard.errors import BadLine
from sparkboard.texts import Spoken, spoken_of, text_of
from tests.asking import Asking
from tests.plain import Strange, only_tuples, random_plan, some_plans, strange_values

WORDS = ("circuit", "input", "reg", "next", "output", "end", "one", "not",
         "and", "or", "xor", "but", "same", "as", "always")

COUNTER = """\
circuit counter
  input up clear
  reg low = 0
  reg high = 1
  both = low and up
  sum = low xor up
  on = one
  off = not clear
  newlow = sum and off
  carry = high xor both
  newhigh = carry but clear
  next low = newlow
  next high = newhigh
  output low high low
end
"""


def parts(circuit):
    return circuit.inputs, circuit.resets, circuit.gates, circuit.nexts, circuit.outputs


class Texts(Asking):
    def wrong(self, text, line, column):
        with self.subTest(text=text):
            self.assert_error(BadLine, (line, column), spoken_of, text)

    def right(self, text):
        with self.subTest(text=text):
            return spoken_of(text)

    def in_circuit(self, line, column, ahead="input a b\nreg r = 0\nreg s = 1\ng = a and r\n"):
        self.wrong(f"circuit c\n{ahead}{line}\noutput r\nend", ahead.count("\n") + 2, column)


class Right(Texts):
    def test_a_circuit(self):
        told = spoken_of(COUNTER)
        self.assertIs(told.__class__, tuple)
        self.assertEqual(len(told), 1)
        spoken = told[0]
        self.assertIs(spoken.__class__, Spoken)
        self.assertEqual(spoken.name, "counter")
        names = ("up", "clear", "low", "high", "both", "sum", "on", "off", "newlow", "carry", "newhigh")
        self.assertEqual(spoken.names, names)
        gates = (("and", 2, 0), ("xor", 2, 0), ("one",), ("not", 1), ("and", 5, 7), ("xor", 3, 4), ("but", 9, 1))
        self.assertEqual(spoken.circuit, Circuit(2, (0, 1), gates, (8, 10), (2, 3, 2)))
        self.assertTrue(only_tuples(spoken.names) and only_tuples(parts(spoken.circuit)))
        self.assertEqual(text_of(spoken), COUNTER)

    def test_nothing_at_all(self):
        for text in ("", "\n", "\n\n", "   ", "  \n \n\n    "):
            self.assertEqual(self.right(text), ())

    def test_many_circuits(self):
        told = spoken_of("\n".join(f"circuit {name}\ninput x\noutput x\nend\n" for name in "abx"))
        self.assertEqual([spoken.name for spoken in told], ["a", "b", "x"])
        self.assertTrue(all(spoken.names == ("x",) for spoken in told))

    def test_lines_in_any_order(self):
        text = """
circuit any
 reg r=1
   g   =   r   and   r
 next   r=g
 input  z   y
 output z
 reg q =0
 h= not q
 input w
 next q = h
 output   r w  z
end"""
        spoken = self.right(text)[0]
        self.assertEqual(spoken.names, ("z", "y", "w", "r", "q", "g", "h"))
        self.assertEqual(spoken.circuit, Circuit(3, (1, 0), (("and", 3, 3), ("not", 4)), (5, 6), (0, 3, 2, 0)))

    def test_a_reg_without_next_stays(self):
        spoken = self.right("circuit c\nreg a = 1\nreg b = 0\nnext b = a\noutput b\nend")[0]
        self.assertEqual(spoken.circuit, Circuit(0, (1, 0), (), (0, 0), (1,)))

    def test_spaces(self):
        for text in (
            "circuit c\ninput a\nx=one\ny=not a\nz=x and y\nreg r=0\nnext r=z\noutput z\nend",
            "  circuit   c  \n\n   \n input   a  \n x  =  one \n y=  not   a \n z  =x   and   y  \n reg   r  =  0  \n"
            "next   r  =  z\n  output   z  \n  end  \n   \n",
        ):
            spoken = self.right(text)[0]
            self.assertEqual(spoken.names, ("a", "r", "x", "y", "z"))
            self.assertEqual(spoken.circuit, Circuit(1, (0,), (("one",), ("not", 0), ("and", 2, 3)), (4,), (4,)))

    def test_names(self):
        for name in ("a", "z9_", "a" * 12, "ends", "en", "inputs", "ones", "x_______", "a0123456789_", "andx", "as_"):
            spoken = self.right(f"circuit {name}\ninput {name}\noutput {name}\nend")[0]
            self.assertEqual((spoken.name, spoken.names), (name, (name,)))

    def test_names_that_begin_like_words(self):
        text = "circuit c\ninput input1 on no\nregs = one\nnexts = not on\nendx = no and regs\noutput endx\nend"
        self.assertEqual(self.right(text)[0].names, ("input1", "on", "no", "regs", "nexts", "endx"))

    def test_the_last_line_end(self):
        text = "circuit c\ninput a\noutput a\nend"
        for more in ("", "\n", "\n\n", "\n   ", "   \n"):
            self.assertEqual(len(self.right(text + more)), 1)


class Wrong(Texts):
    def test_no_string(self):
        for value in strange_values() + [("circuit",), [], (), b"", 0]:
            if not isinstance(value, str):
                self.assert_error(BadLine, (0, 0), spoken_of, value)

    def test_outside_of_circuits(self):
        for line, column in (
            ("x", 1), ("c", 2), ("circ", 5), ("circuit", 8), ("circuit ", 9), ("circuits", 8), ("circuitc", 8), ("circus", 6),
            ("circuit C", 9), ("circuit 9", 9), ("circuit _a", 9), ("circuit a b", 11), ("circuit a$", 10), ("circuit a =", 11),
            ("circuit end", 12), ("circuit and ", 12), ("circuit as b", 11), ("  input x", 3), ("end", 1), ("\t", 1), (" $", 2),
            ("circuit " + "a" * 13, 21), ("circuit " + "a" * 40, 21), ("circuit circuit", 16), ("Circuit a", 1), ("circuit\ta", 8),
        ):
            self.wrong(line, 1, column)
            self.wrong("\n  \n" + line, 3, column)
            self.wrong(COUNTER + line + "\n" + COUNTER, 16, column)

    def test_a_second_circuit_of_a_name(self):
        self.wrong(COUNTER + COUNTER, 16, 9)
        self.wrong(COUNTER + "\n   circuit    counter $", 17, 15)
        self.wrong(COUNTER + "circuit counter2$", 16, 17)

    def test_a_text_that_ends_within_a_circuit(self):
        for text, line in (
            ("circuit a", 2), ("circuit a\n", 2), ("circuit a\n\n", 3), ("circuit a\n  ", 3), ("circuit a\n  \n", 3),
            ("circuit a\ninput x\noutput x", 4), (COUNTER + "circuit b\n", 17), ("\n\ncircuit a", 4),
        ):
            self.wrong(text, line, 1)

    def test_first_words(self):
        for line, column in (
            ("$", 1), ("  A", 3), ("9", 1), ("_", 1), ("=", 1), ("circuit x", 8), ("circuit", 8), ("one = one", 4), ("and", 4),
            ("same as", 5), ("always a", 7), ("not = one", 4), ("Input a", 1), ("input", 6), ("input=", 6), ("input =", 7),
            ("output", 7), ("output$", 7), ("reg", 4), ("next", 5), ("reg=", 4), ("x" * 13, 13), ("x" * 13 + " = one", 13),
            ("end x", 5), ("end=", 4), ("end = one", 5), ("end$", 4), ("en", 3), ("en d", 4), ("regs", 5), ("inputs a", 8),
        ):
            self.in_circuit(line, column, "input a b\nreg r = 0\noutput r\n")

    def test_end_ahead_of_outputs(self):
        for line, column in (("end", 1), ("  end", 3), ("end  ", 1), ("end x", 1), ("end=one", 1), (" end$", 2), ("en", 3)):
            self.in_circuit(line, column)
            self.in_circuit(line, column, "")

    def test_inputs_and_regs(self):
        for line, column in (
            ("input ", 7), ("input A", 7), ("input x,y", 8), ("input x y$", 10), ("input x and", 12), ("input x or y", 11),
            ("input x 1", 9), ("input x _", 9), ("input " + "x" * 13, 19), ("input a", 7), ("input x y x", 11), ("input g$", 7),
            ("input x r = 0", 9), ("input x = 0", 9), ("reg x", 6), ("reg x ", 7), ("reg x =", 8), ("reg x= ", 8), ("reg x=2", 7),
            ("reg x = 01", 10), ("reg x = 0 1", 11), ("reg x = a", 9), ("reg x 0", 7), ("reg a = 0", 5), ("reg r$", 5),
            ("reg x y", 7), ("reg one", 8), ("reg one = 0", 8), ("reg  = 0", 6), ("reg x == 0", 8), ("reg x=-1", 7),
        ):
            self.in_circuit(line, column)

    def test_gates(self):
        for line, column in (
            ("x", 2), ("x ", 3), ("x y", 3), ("x =", 4), ("x = ", 5), ("x == one", 4), ("x = A", 5), ("x = 1", 5), ("x = one 1", 9),
            ("x = one$", 8), ("x = ones", 5), ("x = on", 5), ("x = one and a", 9), ("x = not", 8), ("x = not ", 9), ("x = not$", 8),
            ("x = not q", 9), ("x = not a b", 11), ("x = not a$", 10), ("x = not and", 12), ("x = not not a", 12), ("x = notq", 5),
            ("x = a", 6), ("x = a ", 7), ("x = a$", 6), ("x = a q", 7), ("x = a a", 8), ("x = a an", 9), ("x = a ant", 9),
            ("x = a and", 10), ("x = a and ", 11), ("x = a andb", 10), ("x = a and$", 10), ("x = a and b c", 13),
            ("x = a and q", 11), ("x = a xor", 10), ("x = a xo r", 9), ("x = a o", 8), ("x = a bu", 9), ("x = a b", 8),
            ("x = a but b$", 12), ("x = a not b", 7), ("x = a AND b", 7), ("x = a or or", 12), ("x = a or or ", 12),
            ("x = a or not b", 13), ("x = a or " + "b" * 13, 22), ("x = x and a", 5), ("x = not x", 9), ("x = a or x", 10),
            ("x = end", 8), ("x = end ", 8), ("x = and b", 8), ("x = circuit", 12), ("x = q and $", 5), ("x = a and q$", 11),
            ("a = one", 1), ("  a", 3), ("g = $", 1), ("a$", 1), ("r = not r", 1), ("x = a= b", 6), ("x = a_ and b", 5),
        ):
            self.in_circuit(line, column)

    def test_nexts_and_outputs(self):
        for line, column in (
            ("next ", 6), ("next a = r", 6), ("next g = r", 6), ("next q = r", 6), ("next r", 7), ("next r ", 8), ("next r =", 9),
            ("next r = ", 10), ("next r = q", 10), ("next r = a b", 12), ("next r = a$", 11), ("next r r", 8), ("next r = one", 13),
            ("next r = 1", 10), ("next and", 9), ("next and = r", 9), ("next q$", 6), ("next a$ = q", 6), ("next r == r", 9),
            ("output ", 8), ("output q", 8), ("output r q", 10), ("output r,a", 9), ("output r a and", 15), ("output r 1", 10),
            ("output = r", 8), ("output and a", 11), ("output rr", 8), ("output r$", 9),
        ):
            self.in_circuit(line, column)

    def test_the_reg_of_a_second_next(self):
        self.in_circuit("next r = a", 6, "input a\nreg r = 0\nnext r = r\n")
        self.in_circuit("  next  r = $", 9, "input a\nreg r = 0\nnext r = r\n")
        self.in_circuit("next r$", 6, "input a\nreg r = 0\nnext r = r\n")

    def test_names_are_told_above_alone(self):
        self.in_circuit("x = not later", 9, "")
        self.wrong("circuit c\noutput a\ninput a\nend", 2, 8)
        self.wrong("circuit c\nnext r = r\nreg r = 0\nend", 2, 6)
        self.wrong(COUNTER + "circuit d\noutput up\nend", 17, 8)

    def test_the_first_wrong_line(self):
        self.wrong("circuit a\n$\n$\n", 2, 1)
        self.wrong("circuit a\n\n   \n input x\n reg y = 2\nend", 5, 10)


NAME = r"(?!(?:" + "|".join(WORDS) + r")(?![a-z0-9_]))[a-z][a-z0-9_]{0,11}(?![a-z0-9_])"
FORMS = (
    " *input(?: +NEW)+ *", " *reg +NEW *= *[01] *", " *NEW *= *one *", " *NEW *= *not +TOLD *",
    " *NEW *= *TOLD +(?:and|or|xor|but) +TOLD *", " *next +REG *= *TOLD *", " *output(?: +TOLD)+ *", " *end *",
)
SAMPLES = (
    "  input  n22 nn2222222222  ", "  reg  nn22  =  0  ", "reg n=1", "  nnn222222222  =  one  ", "n=one", "  n  =  not  aa22  ",
    "  n  =  a2  and  a2  ", "n=a2 or  a2", "n=a2 xor  a2", "n=a2 but  a2", "  next  r2  =  aa22  ", "next r2=a2",
    "  output  aa22  a2  ", "  end  ",
)
PLACES = {"NEW": {"any": NAME}, "TOLD": {"any": NAME}, "REG": {"any": NAME}}
TOLD = ("a", "r", "g", "a2", "aa22", "r2")
PLACES["TOLD"]["told"] = f"(?:{'|'.join(TOLD)})(?![a-z0-9_])"
PLACES["REG"]["told"] = "(?:r|r2)(?![a-z0-9_])"
PLACES["NEW"]["told"] = f"(?!{PLACES['TOLD']['told']}){NAME}"


def pattern(kind):
    """What is a right line, if any name counts as told and as new, or if names are as they are."""
    text = "|".join(FORMS)
    for place, ways in PLACES.items():
        text = text.replace(place, ways[kind])
    return re.compile(text)


RIGHT = {kind: pattern(kind) for kind in ("any", "told")}
# Each beginning that goes on at all goes on to a right line with the end of one of these.
ENDS = sorted({sample[at:] for sample in SAMPLES for at in range(len(sample) + 1)})
ENDS = sorted({head + end for head in ("", "2") for end in ENDS}, key=len)


def begins(beginning, kind):
    """Whether some right line begins so."""
    return any(RIGHT[kind].fullmatch(beginning + end) for end in ENDS)


def wrong_column(line):
    """The column that [5] tells for a line at its place, None for a right line."""
    known = {}

    def goes(many):
        if many not in known:
            known[many] = begins(line[:many], "any")
        return known[many]

    low, high = 0, len(line)
    while low < high:
        middle = (low + high + 1) // 2
        low, high = (middle, high) if goes(middle) else (low, middle - 1)
    for run in re.finditer("[a-z0-9_]+", line):
        if run.end() > low or not re.fullmatch(NAME, run.group()):
            continue
        read_as_name = line[:run.end()] + " "
        whole = begins(read_as_name, "any")
        if whole and not begins(read_as_name, "told"):
            return run.start() + 1
    if low == len(line) and RIGHT["any"].fullmatch(line):
        return None
    return low + 1


class Columns(Texts):
    """The columns, against a count by what right lines look like."""

    PIECES = (
        "input", "reg", "next", "output", "end", "one", "not", "and", "or", "xor", "but", "circuit", "as",
        "a", "r", "g", "n", "m", "ar", "one1", "a2", "inp", "an", "xo", "o", "abcdefghijkl", "abcdefghijklm", "0", "1", "01",
        "=", "==", " ", "  ", " ", " ", " ", " = ", " = ", "$", "A", "_", "-", "\t",
    )

    def check(self, line):
        if not line.strip(" "):
            return
        ahead = "circuit c\ninput a a2\nreg r = 0\nreg r2 = 1\ng = not a\naa22 = one\noutput a\n"
        wanted = wrong_column(line)
        try:
            spoken_of(ahead + line)
            told = None
        except BadLine as why:
            told = why.column if why.line == 8 else None
        self.assertEqual(told, wanted, repr(line))

    def test_of_mixed_lines(self):
        chance = random.Random(1)
        for _ in range(500):
            self.check("".join(chance.choice(self.PIECES) for _ in range(chance.randrange(1, 9))))

    def test_of_nearly_right_lines(self):
        chance = random.Random(2)
        for _ in range(1000):
            line = chance.choice((
                "input n m", "reg n = 1", "n = one", "n = not a", "n = a and r", "n=g but a", "next r = g", "output a g r", "end",
                " n = a xor a2 ", " n = r or aa22",
            ))
            for _ in range(chance.randrange(1, 3)):
                at = chance.randrange(len(line) + 1)
                line = line[:at] + chance.choice(self.PIECES) + line[at + chance.randrange(3):]
            self.check(line)

    def test_of_beginnings(self):
        for line in ("  input n m ", " reg n = 1 ", "n = not a ", " n  = a and r", " next r = g ", " output a g", " end "):
            for many in range(1, len(line)):
                self.check(line[:many])
                self.check(line[:many] + "$")
                self.check(line[:many] + "x")


class Fact(Texts):
    def speak(self, chance, plan):
        signals = plan[0] + len(plan[1]) + len(plan[2])
        names = []
        while len(names) < signals:
            name = chance.choice(string.ascii_lowercase)
            name += "".join(chance.choice("abc01_9z") for _ in range(chance.randrange(12)))
            if name not in names and name not in WORDS:
                names.append(name)
        return Spoken("c" + str(chance.randrange(1000)), names, Circuit(*plan))

    def assert_back(self, spoken):
        text = self.assert_unchanged(text_of, spoken)
        told = spoken_of(text)
        self.assertEqual(len(told), 1)
        self.assertEqual((told[0].name, told[0].names), (spoken.name, spoken.names))
        self.assertEqual(told[0].circuit, spoken.circuit)
        self.assertEqual(text_of(told[0]), text)

    def test_back_for_many_spoken_circuits(self):
        chance = random.Random(3)
        for plan in some_plans(4, 300, gates=12, outputs=4):
            if plan[4]:
                self.assert_back(self.speak(chance, plan))

    def test_back_for_texts_put_together(self):
        chance = random.Random(5)
        plans = [plan for plan in some_plans(6, 12) if plan[4]]
        spoken = [self.speak(chance, plan) for plan in plans]
        for number, one in enumerate(spoken):
            spoken[number] = Spoken(f"c{number}", one.names, one.circuit)
        told = spoken_of("\n".join(text_of(one) for one in spoken))
        self.assertEqual([one.name for one in told], [one.name for one in spoken])
        self.assertEqual([one.names for one in told], [one.names for one in spoken])
        self.assertTrue(all(one.circuit == other.circuit for one, other in zip(told, spoken)))

    def test_texts_written_out(self):
        gates = (("one",), ("not", 0), ("and", 1, 2), ("or", 2, 1), ("xor", 0, 0), ("but", 4, 3))
        spoken = Spoken("all", ["i", "r", "s", "a", "b", "c", "d", "e", "f"], Circuit(1, (0, 1), gates[:6], (2, 2), (8, 0)))
        self.assertEqual(text_of(spoken), (
            "circuit all\n  input i\n  reg r = 0\n  reg s = 1\n  a = one\n  b = not i\n  c = r and s\n  d = s or r\n"
            "  e = i xor i\n  f = b but a\n  next r = s\n  output f i\nend\n"
        ))
        spoken = Spoken("n", ("r",), Circuit(0, (1,), (), (0,), (0,)))
        self.assertEqual(text_of(spoken), "circuit n\n  reg r = 1\n  output r\nend\n")
        spoken = Spoken("n", ("g",), Circuit(0, (), (("one",),), (), (0,)))
        self.assertEqual(text_of(spoken), "circuit n\n  g = one\n  output g\nend\n")


class Objects(Asking):
    def test_they_keep_any_values(self):
        strange = Strange()
        spoken = Spoken(strange, None, 3)
        self.assertIs(spoken.name, strange)
        self.assertEqual((spoken.names, spoken.circuit), (None, 3))
        self.assertEqual(set(vars(spoken)), {"name", "names", "circuit"})

    def test_lists_are_copied(self):
        names = ["a", ["b"]]
        spoken = Spoken("c", names, [])
        names[1].append("d")
        names.append("e")
        self.assertEqual((spoken.names, spoken.circuit), (("a", ["b", "d"]), ()))

    def test_equal_to_themselves_alone(self):
        circuit = Circuit(1, (), (), (), (0,))
        self.assert_only_itself_equal(lambda: Spoken("a", ("x",), circuit))

    def test_random_plans_have_outputs(self):
        self.assertEqual(len(random_plan(random.Random(1), 1, 1, 1, 2)[4]), 2)


if __name__ == "__main__":
    unittest.main()
