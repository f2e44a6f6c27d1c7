"""Clocked circuits: their plain meaning, fewer gates, and whether two are alike."""

from sparkboard.errors import BadGate, BadNumber, BadRow, Unlike
from sparkboard.values import all_bits, are_told_bit_rows, is_below, is_bit_rows, is_bits, is_from, is_row, kept

PAIRED_KINDS = ("and", "or", "xor", "but")
# So many pairs of states are looked at together at most.
AT_ONCE = 256


def _are_signals(value, many):
    return is_row(value) and all([is_below(signal, many) for signal in value])


def _is_gate(value, ahead):
    """Whether a value is a gate that names none but so many signals ahead of it."""
    if not isinstance(value, tuple) or len(value) == 0 or not isinstance(value[0], str):
        return False
    if value[0] in PAIRED_KINDS:
        named = 2
    elif value[0] == "not":
        named = 1
    elif value[0] == "one":
        named = 0
    else:
        return False
    return len(value) == 1 + named and _are_signals(value[1:], ahead)


class Circuit:
    """Inputs, registers and gates, numbered as signals in this order."""

    def __init__(self, inputs, resets, gates, nexts, outputs):
        if not is_from(inputs, 0):
            raise BadNumber("inputs", inputs)
        if not is_row(resets) or not is_bits(resets, len(resets)):
            raise BadRow(resets)
        if not is_row(gates):
            raise BadRow(gates)
        ahead = inputs + len(resets)
        for index, gate in enumerate(gates):
            if not _is_gate(gate, ahead + index):
                raise BadGate(index)
        many = ahead + len(gates)
        if not _are_signals(nexts, many) or len(nexts) != len(resets):
            raise BadRow(nexts)
        if not _are_signals(outputs, many):
            raise BadRow(outputs)
        self.inputs = inputs
        self.resets = tuple(resets)
        self.gates = tuple(gates)
        self.nexts = tuple(nexts)
        self.outputs = tuple(outputs)

    def __eq__(self, other):
        return (
            isinstance(other, Circuit) and self.inputs == other.inputs and self.resets == other.resets
            and self.gates == other.gates and self.nexts == other.nexts and self.outputs == other.outputs
        )


class Alike:
    """Pairs of states of two circuits, closed under all bits, that show that they are alike."""

    def __init__(self, pairs):
        self.pairs = kept(pairs)


class Parting:
    """Rows of bits with which the outputs of two circuits differ in the last cycle."""

    def __init__(self, rows):
        self.rows = kept(rows)


def _word_of_gate(gate, values, ones):
    kind = gate[0]
    if kind == "one":
        return ones
    one = values[gate[1]]
    if kind == "not":
        return ones ^ one
    other = values[gate[2]]
    if kind == "and":
        return one & other
    if kind == "or":
        return one | other
    if kind == "xor":
        return one ^ other
    return one & (ones ^ other)


def _values(circuit, state, bits, ones):
    """The values of all signals in a cycle, 0 or ones; if ones has many bits, in as many cases, one a bit."""
    values = list(bits) + list(state)
    for gate in circuit.gates:
        values.append(_word_of_gate(gate, values, ones))
    return values


def _picked(values, signals):
    return tuple([values[signal] for signal in signals])


def cycle_of(circuit, state, bits, ones=1):
    """The outputs and the next state of a cycle; of many cycles at once, if ones has many bits."""
    values = _values(circuit, state, bits, ones)
    return _picked(values, circuit.outputs), _picked(values, circuit.nexts)


def _check_state(circuit, state):
    if not is_bits(state, len(circuit.resets)):
        raise BadRow(state)


def _check_rows(circuit, rows):
    if not is_bit_rows(rows, circuit.inputs):
        raise BadRow(rows)


def cycle(circuit, state, bits):
    """The values of all signals in a cycle, and the next state."""
    _check_state(circuit, state)
    if not is_bits(bits, circuit.inputs):
        raise BadRow(bits)
    values = _values(circuit, state, bits, 1)
    return tuple(values), _picked(values, circuit.nexts)


def _played(circuit, state, rows):
    """The outputs of each cycle from a state on, and the state behind the rows."""
    told = []
    now = tuple(state)
    for bits in rows:
        outputs, now = cycle_of(circuit, now, bits)
        told.append(outputs)
    return tuple(told), now


def run_from(circuit, state, rows):
    """The outputs in each cycle, the first state being a told one."""
    _check_state(circuit, state)
    _check_rows(circuit, rows)
    told, _ = _played(circuit, state, rows)
    return told


def state_behind(circuit, state, rows):
    """The state behind rows of bits, the first state being a told one."""
    _check_state(circuit, state)
    _check_rows(circuit, rows)
    _, now = _played(circuit, state, rows)
    return now


def run(circuit, rows):
    """The outputs in each cycle, the first state being the resets."""
    return run_from(circuit, circuit.resets, rows)


def _named_by(circuit, signal):
    """The signals that a gate names, a register's next, none for an input."""
    at = signal - circuit.inputs
    if at < 0:
        return ()
    if at < len(circuit.resets):
        return (circuit.nexts[at],)
    gate = circuit.gates[at - len(circuit.resets)]
    return gate[1:]


def needed(circuit):
    """The signals on which the outputs rest, ascending."""
    found = {}
    waiting = list(circuit.outputs)
    while waiting:
        signal = waiting.pop()
        if signal not in found:
            found[signal] = True
            waiting.extend(_named_by(circuit, signal))
    return tuple(sorted(list(found)))


def _with_gates(circuit, gates, stands):
    """The circuit with other gates; stands tells for each signal the one that stands for it."""
    return Circuit(
        circuit.inputs, circuit.resets, gates,
        _picked(stands, circuit.nexts), _picked(stands, circuit.outputs),
    )


def few(circuit):
    """A like circuit of the kinds one, or, xor and but alone."""
    ahead = circuit.inputs + len(circuit.resets)
    stands = list(range(ahead))
    gates = []
    if any([gate[0] in ("one", "not") for gate in circuit.gates]):
        gates.append(("one",))
    for gate in circuit.gates:
        kind = gate[0]
        named = [stands[signal] for signal in gate[1:]]
        if kind == "one":
            stands.append(ahead)
            continue
        if kind == "not":
            gates.append(("but", ahead, named[0]))
        elif kind == "and":
            # a and b is a but (a but b).
            gates.append(("but", named[0], named[1]))
            gates.append(("but", named[0], ahead + len(gates) - 1))
        else:
            gates.append((kind, named[0], named[1]))
        stands.append(ahead + len(gates) - 1)
    return _with_gates(circuit, gates, stands)


def _renamed(gate, stands):
    return (gate[0],) + tuple([stands[signal] for signal in gate[1:]])


def _ordered(gate):
    """The gate, of those that are like it with both signals exchanged the one to keep."""
    if gate[0] in ("or", "xor") and gate[1] > gate[2]:
        return (gate[0], gate[2], gate[1])
    return gate


def _without_twins(circuit):
    """The circuit with one gate in the place of all like ones; those made like by this count, too."""
    ahead = circuit.inputs + len(circuit.resets)
    stands = list(range(ahead))
    gates = []
    known = {}
    for gate in circuit.gates:
        made = _ordered(_renamed(gate, stands))
        if made not in known:
            known[made] = ahead + len(gates)
            gates.append(made)
        stands.append(known[made])
    return _with_gates(circuit, gates, stands)


def _without_idle(circuit):
    """The circuit without the gates and registers on which no output rests."""
    ahead = circuit.inputs + len(circuit.resets)
    found = [signal for signal in needed(circuit) if signal >= circuit.inputs]
    left = list(range(circuit.inputs)) + found
    stands = {signal: number for number, signal in enumerate(left)}
    states = [signal - circuit.inputs for signal in found if signal < ahead]
    gates = [circuit.gates[signal - ahead] for signal in found if signal >= ahead]
    return Circuit(
        circuit.inputs,
        _picked(circuit.resets, states),
        [_renamed(gate, stands) for gate in gates],
        _picked(stands, _picked(circuit.nexts, states)),
        _picked(stands, circuit.outputs),
    )


def lighter(circuit):
    """A like circuit of the kinds of few, without like gates, and with nothing that is not needed."""
    return _without_idle(_without_twins(few(circuit)))


class Cycles:
    """The cycles of a circuit; each is worked out once."""

    def __init__(self, circuit):
        self.circuit = circuit
        self.known = {}

    def behind(self, state, bits):
        """What a cycle shows from a state on, and the state behind it."""
        if (state, bits) not in self.known:
            self.known[(state, bits)] = cycle_of(self.circuit, state, bits)
        return self.known[(state, bits)]

    def all_behind(self, states, lines):
        """The same for each state and each line."""
        return [self.behind(state, bits) for state in states for bits in lines]


def _looks(one, other, pairs, lines):
    """For each pair of states and each line: whether one and other show the same, and the pair of states behind."""
    answers = one.all_behind([pair[0] for pair in pairs], lines)
    others = other.all_behind([pair[1] for pair in pairs], lines)
    return [(answer[0] == counter[0], (answer[1], counter[1])) for answer, counter in zip(answers, others)]


def first_parting(one, other, first, lines, most=None):
    """Looks, from a pair of states on, for rows of lines with which one and other show unlike things.

    Tells rows of the least number, at most most, or None; the pairs to which fewer lines lead; and whether these
    lead to no others.
    """
    pairs = [first]
    rows = {first: ()}
    are_all = True
    at = 0
    # Pairs come in the order of how many lines lead to them, so the first difference is one of the least.
    while at < len(pairs):
        block = pairs[at:at + AT_ONCE]
        at += len(block)
        for number, (is_same, met) in enumerate(_looks(one, other, block, lines)):
            behind = rows[block[number // len(lines)]] + (lines[number % len(lines)],)
            if not is_same:
                return behind, pairs, False
            if met not in rows and len(behind) == most:
                are_all = False
            elif met not in rows:
                rows[met] = behind
                pairs.append(met)
    return None, pairs, are_all


def are_closed(one, other, first, lines, pairs):
    """Whether pairs of states are unlike, have a first one among them, show the same and lead to one another."""
    lot = {pair: True for pair in pairs}
    if len(lot) != len(pairs) or first not in lot:
        return False
    for at in range(0, len(pairs), AT_ONCE):
        looks = _looks(one, other, pairs[at:at + AT_ONCE], lines)
        if not all([is_same and met in lot for is_same, met in looks]):
            return False
    return True


def _check_sizes(one, other):
    if one.inputs != other.inputs or len(one.outputs) != len(other.outputs):
        raise Unlike("sizes")


def alike(one, other):
    """The Alike or the Parting of two circuits."""
    _check_sizes(one, other)
    first = (one.resets, other.resets)
    rows, pairs, _ = first_parting(Cycles(one), Cycles(other), first, all_bits(one.inputs))
    return Alike(pairs) if rows is None else Parting(rows)


def _is_state(value, circuit):
    return isinstance(value, tuple) and is_bits(value, len(circuit.resets))


def _is_pair(value, one, other):
    return isinstance(value, tuple) and len(value) == 2 and _is_state(value[0], one) and _is_state(value[1], other)


def _is_closed(one, other, pairs):
    """Whether a value is what an Alike of two circuits keeps."""
    if not isinstance(pairs, tuple) or not all([_is_pair(pair, one, other) for pair in pairs]):
        return False
    return are_closed(Cycles(one), Cycles(other), (one.resets, other.resets), all_bits(one.inputs), pairs)


def _parts(one, other, rows):
    """Whether a value is what a Parting of two circuits keeps."""
    if not are_told_bit_rows(rows, one.inputs) or len(rows) == 0:
        return False
    found = alike(one, other)
    # With the least number of rows no outputs differ ahead of the last cycle.
    if not isinstance(found, Parting) or len(rows) != len(found.rows):
        return False
    return run(one, rows) != run(other, rows)


def is_alike(one, other, told):
    """Whether a value is an Alike or a Parting of two circuits, as alike describes it."""
    _check_sizes(one, other)
    if isinstance(told, Alike):
        return _is_closed(one, other, told.pairs)
    if isinstance(told, Parting):
        return _parts(one, other, told.rows)
    return False
