"""Spoken circuits and their texts."""

from sparkboard.circuits import PAIRED_KINDS, Circuit
from sparkboard.errors import BadLine, BadText
from sparkboard.values import kept

LETTERS = "abcdefghijklmnopqrstuvwxyz"
WORD_SIGNS = "abcdefghijklmnopqrstuvwxyz0123456789_"
MOST_SIGNS = 12
RESERVED = (
    "circuit", "input", "reg", "next", "output", "end", "one", "not",
    "and", "or", "xor", "but", "same", "as", "always",
)


def is_name(value):
    """Whether a value is a name of a circuit or a signal."""
    if not isinstance(value, str) or value in RESERVED or not 1 <= len(value) <= MOST_SIGNS:
        return False
    return value[0] in LETTERS and all([sign in WORD_SIGNS for sign in value])


class Spoken:
    """A name, the names of all signals, and the Circuit that they name."""

    def __init__(self, name, names, circuit):
        self.name = kept(name)
        self.names = kept(names)
        self.circuit = kept(circuit)


class Reader:
    """One line, read from the left: what can't go on raises BadText at the first character that is wrong."""

    def __init__(self, line):
        self.line = line
        self.at = 0

    def stop(self, at):
        """The characters ahead of this place are the longest right beginning."""
        raise BadText(at + 1)

    def ahead(self):
        """The longest run of signs of words that stands here."""
        end = self.at
        while end < len(self.line) and self.line[end] in WORD_SIGNS:
            end += 1
        return self.line[self.at:end]

    def spaces(self):
        """Reads spaces, perhaps none."""
        while self.at < len(self.line) and self.line[self.at] == " ":
            self.at += 1

    def gap(self):
        """Reads spaces, one at least."""
        start = self.at
        self.spaces()
        if self.at == start:
            self.stop(start)

    def end(self):
        """Reads the end of the line, perhaps behind spaces."""
        self.spaces()
        if self.at < len(self.line):
            self.stop(self.at)

    def goes_on(self):
        """Whether more than spaces is left; it must stand behind a space."""
        start = self.at
        self.spaces()
        if self.at == len(self.line):
            return False
        if self.at == start:
            self.stop(start)
        return True

    def sign(self, signs):
        """Reads one of these signs."""
        if self.at == len(self.line) or self.line[self.at] not in signs:
            self.stop(self.at)
        self.at += 1
        return self.line[self.at - 1]

    def equals(self):
        """Reads an equals sign and the spaces around it."""
        self.spaces()
        self.sign("=")
        self.spaces()

    def word(self, words):
        """Reads one of these words."""
        found = self.ahead()
        if found not in words:
            self.stop(self.at + max([_common(found, word) for word in words]))
        self.at += len(found)
        return found

    def whole_name(self):
        """Reads a name."""
        found = self.ahead()
        if not is_name(found):
            # A reserved word may still go on to a name, so only what stands behind it is wrong.
            begins = found != "" and found[0] in LETTERS
            self.stop(self.at + (min(len(found), MOST_SIGNS) if begins else 0))
        self.at += len(found)
        return found


def _common(one, other):
    """How many characters two words have in common at their beginnings."""
    many = 0
    while many < min(len(one), len(other)) and one[many] == other[many]:
        many += 1
    return many


class Draft:
    """What is told so far of a circuit whose end is still to come."""

    def __init__(self, name):
        self.name = name
        self.what = {}
        self.inputs = []
        self.regs = []
        self.resets = []
        self.made = []
        self.gates = []
        self.nexts = {}
        self.outs = []


def _new_name(reader, draft):
    start = reader.at
    name = reader.whole_name()
    if name in draft.what:
        reader.stop(start)
    return name


def _told_name(reader, draft):
    start = reader.at
    name = reader.whole_name()
    if name not in draft.what:
        reader.stop(start)
    return name


def _read_inputs(reader, draft):
    going = True
    while going:
        name = _new_name(reader, draft)
        draft.what[name] = "input"
        draft.inputs.append(name)
        going = reader.goes_on()


def _read_reg(reader, draft):
    name = _new_name(reader, draft)
    reader.equals()
    bit = reader.sign("01")
    reader.end()
    draft.what[name] = "reg"
    draft.regs.append(name)
    draft.resets.append(int(bit))


def _read_next(reader, draft):
    start = reader.at
    name = reader.whole_name()
    if draft.what.get(name) != "reg" or name in draft.nexts:
        reader.stop(start)
    reader.equals()
    signal = _told_name(reader, draft)
    reader.end()
    draft.nexts[name] = signal


def _read_outputs(reader, draft):
    going = True
    while going:
        draft.outs.append(_told_name(reader, draft))
        going = reader.goes_on()


def _read_gate(reader, draft):
    name = _new_name(reader, draft)
    reader.equals()
    first = reader.ahead()
    if first == "one":
        reader.word(("one",))
        gate = ("one",)
    elif first == "not":
        reader.word(("not",))
        reader.gap()
        gate = ("not", _told_name(reader, draft))
    else:
        one = _told_name(reader, draft)
        reader.gap()
        kind = reader.word(PAIRED_KINDS)
        reader.gap()
        gate = (kind, one, _told_name(reader, draft))
    reader.end()
    draft.what[name] = "gate"
    draft.made.append(name)
    draft.gates.append(gate)


LINES = {"input": _read_inputs, "reg": _read_reg, "next": _read_next, "output": _read_outputs}


def _opened(reader, names):
    """The Draft that a line begins; names are those of the circuits ahead."""
    reader.spaces()
    reader.word(("circuit",))
    reader.gap()
    start = reader.at
    name = reader.whole_name()
    if name in names:
        reader.stop(start)
    reader.end()
    return Draft(name)


def _closes(reader, draft):
    """Reads a line of a circuit; whether it is its end."""
    reader.spaces()
    first = reader.ahead()
    if first == "end":
        if not draft.outs:
            reader.stop(reader.at)
        reader.word(("end",))
        reader.end()
        return True
    if first in LINES:
        reader.word((first,))
        reader.gap()
        read = LINES[first]
        read(reader, draft)
    else:
        _read_gate(reader, draft)
    return False


def _spoken(draft):
    names = draft.inputs + draft.regs + draft.made
    number = {name: signal for signal, name in enumerate(names)}
    gates = [(gate[0],) + tuple([number[name] for name in gate[1:]]) for gate in draft.gates]
    nexts = [number[draft.nexts.get(name, name)] for name in draft.regs]
    outputs = [number[name] for name in draft.outs]
    return Spoken(draft.name, names, Circuit(len(draft.inputs), draft.resets, gates, nexts, outputs))


def _lines_of(text):
    """The lines of a text; behind the last line end there is none."""
    lines = text.split("\n")
    return lines[:-1] if lines[-1] == "" else lines


def spoken_of(text):
    """The spoken circuits of a text."""
    if not isinstance(text, str):
        raise BadLine(0, 0)
    lines = _lines_of(text)
    told = []
    names = {}
    draft = None
    for number, line in enumerate(lines, start=1):
        if line.strip(" ") == "":
            continue
        reader = Reader(line)
        try:
            if draft is None:
                draft = _opened(reader, names)
                names[draft.name] = True
            elif _closes(reader, draft):
                told.append(_spoken(draft))
                draft = None
        except BadText as why:
            raise BadLine(number, why.column) from None
    if draft is not None:
        raise BadLine(len(lines) + 1, 1)
    return tuple(told)


def _gate_text(gate, names):
    words = [gate[0]] + [names[signal] for signal in gate[1:]]
    if len(words) == 3:
        words = [words[1], words[0], words[2]]
    return " ".join(words)


def text_of(spoken):
    """The text of a spoken circuit."""
    circuit = spoken.circuit
    names = spoken.names
    ahead = circuit.inputs + len(circuit.resets)
    lines = []
    if circuit.inputs > 0:
        lines.append(" ".join(["input"] + list(names[:circuit.inputs])))
    for name, bit in zip(names[circuit.inputs:ahead], circuit.resets):
        lines.append(f"reg {name} = {bit}")
    for name, gate in zip(names[ahead:], circuit.gates):
        lines.append(f"{name} = {_gate_text(gate, names)}")
    for signal, after in enumerate(circuit.nexts, start=circuit.inputs):
        if after != signal:
            lines.append(f"next {names[signal]} = {names[after]}")
    lines.append(" ".join(["output"] + [names[signal] for signal in circuit.outputs]))
    return "".join([f"circuit {spoken.name}\n"] + [f"  {line}\n" for line in lines] + ["end\n"])
