"""What the document says of workshops and promises, in the plainest way; and circuits for tests."""

import itertools
import re

from sparkboard.circuits import Parting
from tests.plain import all_bits, plain_cycle, plain_least, plain_run

RESERVED = "circuit input reg next output end one not and or xor but same as always".split()
NAME = rf"(?!(?:{'|'.join(RESERVED)})(?![a-z0-9_]))[a-z][a-z0-9_]{{0,11}}(?![a-z0-9_])"
PROMISE = re.compile(rf" *{NAME} +(?:same +as|always) +{NAME} *")

# Texts of circuits without their names, with their plans and the names of their signals.
SHAPES = {
    "wire": ("  input i\n  output i\n", (1, (), (), (), (0,)), ("i",)),
    "twice": ("  input i\n  a = i and i\n  output a\n", (1, (), (("and", 0, 0),), (), (1,)), ("i", "a")),
    "inverse": ("  input i\n  n = not i\n  output n\n", (1, (), (("not", 0),), (), (1,)), ("i", "n")),
    "toggle": (
        "  input i\n  reg r = 0\n  t = r xor i\n  next r = t\n  output r\n",
        (1, (0,), (("xor", 1, 0),), (2,), (1,)), ("i", "r", "t"),
    ),
    "shift": (
        "  input i\n  reg p = 1\n  reg q = 0\n  a = p xor i\n  b = q xor i\n  next p = a\n  next q = b\n  output q\n",
        (1, (1, 0), (("xor", 1, 0), ("xor", 2, 0)), (3, 4), (2,)), ("i", "p", "q", "a", "b"),
    ),
    "late": (
        "  input i\n  reg r = 0\n  reg s = 0\n  a = r or i\n  b = s or r\n  n = not s\n  o = one\n  next r = a\n  next s = b\n"
        "  output n\n",
        (1, (0, 0), (("or", 1, 0), ("or", 2, 1), ("not", 2), ("one",)), (3, 4), (5,)), ("i", "r", "s", "a", "b", "n", "o"),
    ),
    "two": ("  input i j\n  output i\n", (2, (), (), (), (0,)), ("i", "j")),
    "both": ("  input i\n  output i i\n", (1, (), (), (), (0, 0)), ("i",)),
    "still": ("  reg r = 1\n  o = one\n  output o r\n", (0, (1,), (("one",),), (0,), (1, 0)), ("r", "o")),
}


def text_for(name, shape):
    """The text of a circuit of this name."""
    return f"circuit {name}\n{SHAPES[shape][0]}end\n"


def beginnings():
    """The ends with which a beginning of a promise may go on, if it may at all."""
    wholes = ("x1 same as x1", "x1 always x1", "x1  same  as  x1", "1 always x1")
    return sorted({whole[at:] for whole in wholes for at in range(len(whole) + 1)})


ENDS = beginnings()


def plain_column(text):
    """[63]: the column of what is no promise, None for a promise."""
    if PROMISE.fullmatch(text):
        return None
    for end in range(len(text), -1, -1):
        if any(PROMISE.fullmatch(text[:end] + more) for more in ENDS):
            return end + 1
    raise AssertionError("no beginning at all")


def plain_always(plan, signal):
    """The least number of rows with which a signal is 0 in the last cycle, None if there are none."""
    level, seen, many = {tuple(plan[1])}, set(), 0
    while level - seen:
        seen |= level
        many += 1
        following = set()
        for state, bits in itertools.product(level, all_bits(plan[0])):
            values, behind = plain_cycle(plan, state, bits)
            if values[signal] == 0:
                return many
            following.add(behind)
        level = following
    return None


def rows_of_witness(words, witness):
    """[61]: the rows of a Parting where a "same" is not kept, a row of rows itself for an "always"; None for others."""
    if words[1] == "same":
        return witness.rows if witness.__class__ is Parting else None
    return witness if witness.__class__ is tuple else None


def is_witness(words, shapes, witness):
    """Whether a witness shows that a promise is not kept: the last cycle does, and no lesser number of rows."""
    rows = rows_of_witness(words, witness)
    if rows is None:
        return False
    plan = SHAPES[shapes[words[0]]][1]
    if words[1] == "same":
        other = SHAPES[shapes[words[3]]][1]
        one, counter = plain_run(plan, plan[1], rows)[0], plain_run(other, other[1], rows)[0]
        return len(rows) == plain_least(plan, other) and one[-1] != counter[-1] and one[:-1] == counter[:-1]
    signal = SHAPES[shapes[words[0]]][2].index(words[2])
    watched = plan[:4] + ((signal,),)
    return len(rows) == plain_always(plan, signal) and plain_run(watched, plan[1], rows)[0][-1] == (0,)


class Refused(Exception):
    """What a call raises: the name of the class of the error, and its fields; a witness is told as the words."""

    def __init__(self, *told):
        super().__init__(*told)
        self.told = told


class PlainShop:
    """A workshop, by the words of the document; circuits are pairs of a name and a shape."""

    def __init__(self):
        self.circuits = []
        self.promises = []
        self.done = []
        self.undone = []
        self.depth = 0

    def state(self):
        return list(self.circuits), list(self.promises)

    def names(self):
        return [name for name, _ in self.circuits]

    def ask(self, words):
        """The errors of [61]; whether the promise is kept."""
        shapes = dict(self.circuits)
        if words[0] not in shapes:
            raise Refused("NoName", words[0])
        plan = SHAPES[shapes[words[0]]][1]
        if words[1] == "same":
            if words[3] not in shapes:
                raise Refused("NoName", words[3])
            other = SHAPES[shapes[words[3]]][1]
            if (plan[0], len(plan[4])) != (other[0], len(other[4])):
                raise Refused("Unlike", "sizes")
            return plain_least(plan, other) is None
        names = SHAPES[shapes[words[0]]][2]
        if words[2] not in names:
            raise Refused("NoName", words[2])
        return plain_always(plan, names.index(words[2])) is None

    def look(self):
        for words in self.promises:
            if not self.ask(words):
                raise Refused("NotKept", " ".join(words), words)

    def edit(self, circuits, promises, looks=True):
        before = self.state()
        self.circuits, self.promises = circuits, promises
        try:
            if looks and self.depth == 0:
                self.look()
        except Refused:
            self.circuits, self.promises = before
            raise
        if self.state() != before:
            self.done.append(before)
            self.undone = []

    def put(self, told):
        circuits = list(self.circuits)
        for name, shape in told:
            if name in self.names():
                circuits[self.names().index(name)] = (name, shape)
            else:
                circuits.append((name, shape))
        self.edit(circuits, self.promises)

    def drop(self, name):
        if name not in self.names():
            raise Refused("NoName", name)
        left = [words for words in self.promises if name != words[0] and (words[1] != "same" or name != words[3])]
        self.edit([pair for pair in self.circuits if pair[0] != name], left)

    def rename(self, name, new):
        if not re.fullmatch(NAME, new):
            raise Refused("BadName", new)
        if name not in self.names():
            raise Refused("NoName", name)
        if new in self.names():
            raise Refused("TakenName", new)
        promises = []
        for words in self.promises:
            changed = list(words)
            for at in (0, 3) if words[1] == "same" else (0,):
                changed[at] = new if words[at] == name else words[at]
            promises.append(tuple(changed))
        self.edit([(new if old == name else old, shape) for old, shape in self.circuits], promises)

    def keep(self, text):
        words = tuple(text.split())
        self.ask(words)
        self.edit(self.circuits, self.promises + ([] if words in self.promises else [words]))

    def release(self, text):
        words = tuple(text.split())
        if words not in self.promises:
            raise Refused("NoName", text)
        self.edit(self.circuits, [other for other in self.promises if other != words], False)

    def undo(self):
        if not self.done:
            raise Refused("NothingToUndo")
        self.undone.append(self.state())
        self.circuits, self.promises = self.done.pop()

    def redo(self):
        if not self.undone:
            raise Refused("NothingToRedo")
        self.done.append(self.state())
        self.circuits, self.promises = self.undone.pop()

    def within(self, action, stays):
        before, done, undone = self.state(), self.done, self.undone
        self.done, self.undone = [], []
        self.depth += 1
        fails = True
        try:
            told = action(self)
            if self.depth == 1:
                self.look()
            fails = False
        finally:
            self.depth -= 1
            self.done, self.undone = done, undone
            if fails or not stays:
                self.circuits, self.promises = before
        if self.state() != before:
            self.done.append(before)
            self.undone = []
        return told

    def attempt(self, action):
        return self.within(action, True)

    def trial(self, action):
        return self.within(action, False)
