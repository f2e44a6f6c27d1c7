"""Circuits to row programs, step by step: signals stand in slots, slot k being the row 2 * k."""

from sparkboard.circuits import Circuit, few
from sparkboard.programs import Program, does, held


def _tiles(kind, first, end):
    """Tiles of a kind at each second row from first on to below end."""
    return tuple([(kind, row) for row in range(first, end, 2)])


def doubled(m, p):
    """The stages that give slot p twice, each slot behind it going one further."""
    row = 2 * p
    return (
        _tiles("wire", 0, row) + (("copy", row),) + _tiles("down", row + 2, 2 * m),
        _tiles("wire", 0, row + 2) + _tiles("down", row + 1, 2 * m),
    )


def exchanged(m, p):
    """The stages that exchange slots p and p + 1."""
    row = 2 * p
    between = (
        (("copy", row), ("copy", row + 2)),
        (("wire", row), ("xor", row + 1), ("wire", row + 3)),
        (("wire", row), ("copy", row + 1), ("wire", row + 3)),
        (("xor", row), ("xor", row + 2)),
    )
    return tuple([_tiles("wire", 0, row) + tiles + _tiles("wire", row + 4, 2 * m) for tiles in between])


def led(m, p, q):
    """The stages that lead slot p to slot q, each slot on its way going one nearer to p."""
    turns = list(range(p, q)) if p < q else list(range(p - 1, q - 1, -1))
    stages = []
    for slot in turns:
        stages.extend(exchanged(m, slot))
    return tuple(stages)


def made_at(m, p, kind):
    """The stages that put the word of slots p and p + 1 in their place, each slot behind coming one nearer."""
    row = 2 * p
    return (
        _tiles("wire", 0, row + 2) + _tiles("up", row + 2, 2 * m),
        _tiles("wire", 0, row) + ((kind, row),) + _tiles("up", row + 3, 2 * m - 1),
    )


def _left_out(m, p):
    """The stages behind which slot p is gone, each slot behind it having come one nearer."""
    row = 2 * p
    return (
        _tiles("wire", 0, row) + _tiles("up", row + 2, 2 * m),
        _tiles("wire", 0, row) + _tiles("up", row + 1, 2 * m - 1),
    )


def with_one(circuit):
    """What few tells, with a register that is always 1 in the place of the gate one."""
    told = few(circuit)
    if len(told.gates) == 0 or told.gates[0] != ("one",):
        return told
    one = told.inputs + len(told.resets)
    return Circuit(told.inputs, told.resets + (1,), told.gates[1:], told.nexts + (one,), told.outputs)


def _uses(circuit):
    """How often each signal is used, not counting gates that are never used themselves."""
    ahead = circuit.inputs + len(circuit.resets)
    uses = [0] * (ahead + len(circuit.gates))
    for signal in circuit.nexts + circuit.outputs:
        uses[signal] += 1
    for number in reversed(range(len(circuit.gates))):
        if uses[ahead + number] > 0:
            for signal in circuit.gates[number][1:]:
                uses[signal] += 1
    return uses


class Slots:
    """Stages that are being made, and the signals that stand in the slots behind them."""

    def __init__(self, many, uses):
        self.signals = list(range(many))
        self.uses = uses
        self.stages = []
        self.most = many

    def leave_unused(self):
        """Leaves out the slots that nothing uses, the last one first."""
        unused = [slot for slot, signal in enumerate(self.signals) if self.uses[signal] == 0]
        for slot in reversed(unused):
            self.stages.extend(_left_out(len(self.signals), slot))
            self.signals.pop(slot)

    def spare(self, signal):
        """Counts a use of a signal; it is doubled if it is used once more behind this one."""
        self.uses[signal] -= 1
        if self.uses[signal] > 0:
            slot = self.last_slot(signal)
            self.stages.extend(doubled(len(self.signals), slot))
            self.signals.insert(slot, signal)
            self.most = max(self.most, len(self.signals))

    def lead(self, slot, to):
        """Leads a slot to another one."""
        self.stages.extend(led(len(self.signals), slot, to))
        self.signals.insert(to, self.signals.pop(slot))

    def last_slot(self, signal):
        return max([slot for slot, other in enumerate(self.signals) if other == signal])

    def bring(self, one, other):
        """Leads one of two signals next to the other one, so that one is just ahead of other; tells its slot."""
        if one == other:
            return self.signals.index(one)
        to = self.signals.index(other)
        slot = self.last_slot(one)
        if slot < to:
            self.lead(slot, to - 1)
            return to - 1
        to = self.last_slot(other)
        self.lead(self.signals.index(one), to)
        return to

    def make(self, gate, signal):
        """Makes a gate of signals that stand in slots."""
        kind, one, other = gate
        self.spare(one)
        self.spare(other)
        # What the order of both is to the gate decides whether one of them has to pass the other.
        if kind != "but" and self.signals.index(one) > self.signals.index(other):
            one, other = other, one
        slot = self.bring(one, other)
        self.stages.extend(made_at(len(self.signals), slot, kind))
        self.signals[slot:slot + 2] = [signal]

    def arrange(self, signals):
        """Leads signals, some perhaps more than once there, to the first slots, in order."""
        for to, signal in enumerate(signals):
            self.spare(signal)
            self.lead(self.signals.index(signal, to), to)


def _slot_rows(first, many):
    """The rows of so many slots, from the first one on."""
    return tuple(range(2 * first, 2 * (first + many), 2))


def program_of(circuit):
    """A Program that does what with_one of a circuit does."""
    told = with_one(circuit)
    many = len(told.resets)
    ahead = told.inputs + many
    uses = _uses(told)
    slots = Slots(ahead, uses)
    slots.leave_unused()
    for number, gate in enumerate(told.gates):
        if uses[ahead + number] > 0:
            slots.make(gate, ahead + number)
    slots.arrange(told.nexts + told.outputs)
    # With this stage there is one at least.
    stages = tuple(slots.stages) + held(_slot_rows(0, len(slots.signals)), 1)
    registers = list(zip(_slot_rows(told.inputs, many), told.resets))
    return Program(
        max(2 * slots.most, 1), _slot_rows(0, told.inputs), registers, stages,
        _slot_rows(0, many), _slot_rows(many, len(told.outputs)),
    )


def is_program_of(circuit, program):
    """Whether a value is a Program as program_of describes it."""
    if not isinstance(program, Program) or len(program.stages) == 0:
        return False
    told = with_one(circuit)
    rows = _slot_rows(told.inputs, len(told.resets))
    if program.inputs != _slot_rows(0, told.inputs) or tuple([row for row, _ in program.registers]) != rows:
        return False
    if list(program.nexts) != sorted(program.nexts):
        return False
    return does(program, told)
