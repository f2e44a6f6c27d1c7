"""Row programs: tiles in stages, and what they do to bits."""

from sparkboard.circuits import cycle_of
from sparkboard.errors import BadNumber, BadRow, BadTile
from sparkboard.tiles import INS, OUTS, is_kind, rows_of, upper
from sparkboard.values import is_below, is_bit_rows, is_bits, is_from, is_integer, is_row

# In so many variables at most all cases are looked at at once.
AT_ONCE = 14


def _is_placed_tile(value):
    """Whether a value is a kind with the number of a row."""
    return isinstance(value, tuple) and len(value) == 2 and is_kind(value[0]) and is_integer(value[1])


def _wrong_place(rows, stages):
    """The numbers of the stage and the tile that are wrong first, None if none are."""
    if not isinstance(stages, tuple):
        return None, None
    for number, stage in enumerate(stages):
        if not isinstance(stage, tuple):
            return number, None
        free = 0
        for at, tile in enumerate(stage):
            if not _is_placed_tile(tile):
                return number, at
            stands = rows_of(tile)
            # As all tiles ahead end above this row, both what is shared and what is not ascending lie there.
            if stands[0] < free or stands[-1] >= rows:
                return number, at
            free = stands[-1] + 1
    return None


def _check_stages(rows, stages):
    wrong = _wrong_place(rows, stages)
    if wrong is not None:
        raise BadTile(wrong[0], wrong[1])


def are_stages(rows, stages):
    """Whether a value is a tuple of stages of so many rows."""
    return _wrong_place(rows, stages) is None


def _behind(stage, ahead):
    """What rows have behind a stage; each has a bit, or the bits of many cases in one number."""
    behind = [0] * len(ahead)
    for kind, row in stage:
        one = ahead[row]
        if kind == "wire":
            behind[row] = one
        elif kind == "up":
            behind[row - 1] = one
        elif kind == "down":
            behind[row + 1] = one
        elif kind == "copy":
            behind[row] = one
            behind[row + 1] = one
        elif kind == "or":
            behind[row] = one | ahead[row + 1]
        elif kind == "xor":
            behind[row] = one ^ ahead[row + 1]
        else:
            behind[row] = one & (one ^ ahead[row + 1])
    return behind


def _check_passed(rows, stages, bits):
    _check_stages(rows, stages)
    if not is_bits(bits, rows):
        raise BadRow(bits)


def _behind_all(stages, ahead):
    for stage in stages:
        ahead = _behind(stage, ahead)
    return ahead


def passed(rows, stages, bits):
    """The row bits behind all stages."""
    _check_passed(rows, stages, bits)
    return tuple(_behind_all(stages, bits))


def borders(rows, stages, bits):
    """The row bits ahead of each stage, and behind the last one."""
    _check_passed(rows, stages, bits)
    told = [tuple(bits)]
    for stage in stages:
        told.append(tuple(_behind(stage, told[-1])))
    return tuple(told)


def _joined(marks):
    joined = 0
    for mark in marks:
        joined = joined | mark
    return joined


def _marks_behind(stages, ahead):
    """From which rows tiles lead to each row, in numbers whose bits are marks of the rows ahead."""
    for stage in stages:
        behind = [0] * len(ahead)
        for tile in stage:
            top = upper(tile)
            mark = _joined([ahead[top + row] for row in INS[tile[0]]])
            for row in OUTS[tile[0]]:
                behind[top + row] = mark
        ahead = behind
    return ahead


def _marked(mark, many):
    """Which of so many numbers a mark has."""
    return tuple([number for number in range(many) if mark >> number & 1 == 1])


def sources(rows, stages, row):
    """The rows from which tiles lead to a row behind all stages."""
    _check_stages(rows, stages)
    if not is_below(row, rows):
        raise BadNumber("row", row)
    marks = _marks_behind(stages, [1 << number for number in range(rows)])
    return _marked(marks[row], rows)


def moved_down(stages, by):
    """All tiles so many rows further down."""
    return tuple([tuple([(kind, row + by) for kind, row in stage]) for stage in stages])


def _stage_at(stages, number):
    return stages[number] if number < len(stages) else ()


def beside(one, other):
    """The tiles of both, stage by stage."""
    told = []
    for number in range(max(len(one), len(other))):
        tiles = _stage_at(one, number) + _stage_at(other, number)
        told.append(tuple(sorted(tiles, key=upper)))
    return tuple(told)


def held(rows, many):
    """So many stages with a wire on each of these rows."""
    return (tuple([("wire", row) for row in sorted(rows)]),) * many


def _are_rows(value, rows):
    """Whether a value is a row of unlike numbers of rows."""
    return is_row(value) and all([is_below(row, rows) for row in value]) and len(set(value)) == len(value)


def _is_pair(value):
    """Whether a value is a pair of anything and a reset."""
    return is_row(value) and len(value) == 2 and is_below(value[1], 2)


def _check_registers(rows, inputs, registers):
    if not is_row(registers) or not all([_is_pair(pair) for pair in registers]):
        raise BadRow(registers)
    if not _are_rows(list(inputs) + [pair[0] for pair in registers], rows):
        raise BadRow(registers)


class Program:
    """Stages on rows that bear inputs, registers and constant 0 ahead of them, nexts and outs behind them."""

    def __init__(self, rows, inputs, registers, stages, nexts, outs):
        if not is_from(rows, 1):
            raise BadNumber("rows", rows)
        if not _are_rows(inputs, rows):
            raise BadRow(inputs)
        _check_registers(rows, inputs, registers)
        _check_stages(rows, stages)
        if not _are_rows(nexts, rows) or len(nexts) != len(registers):
            raise BadRow(nexts)
        if not _are_rows(outs, rows) or any([row in nexts for row in outs]):
            raise BadRow(outs)
        self.rows = rows
        self.inputs = tuple(inputs)
        self.registers = tuple([tuple(pair) for pair in registers])
        self.stages = stages
        self.nexts = tuple(nexts)
        self.outs = tuple(outs)

    def __eq__(self, other):
        return (
            isinstance(other, Program) and self.rows == other.rows and self.inputs == other.inputs
            and self.registers == other.registers and self.stages == other.stages
            and self.nexts == other.nexts and self.outs == other.outs
        )


def _resets(program):
    return tuple([reset for _, reset in program.registers])


def _ahead(program, state, bits):
    """The rows ahead of the stages of a program."""
    ahead = [0] * program.rows
    for row, bit in zip(program.inputs, bits):
        ahead[row] = bit
    for pair, bit in zip(program.registers, state):
        ahead[pair[0]] = bit
    return ahead


def _picked(values, rows):
    return tuple([values[row] for row in rows])


def _cycle_of(program, state, bits):
    """What outs and nexts have behind the stages; in many cases at once, if the numbers have many bits."""
    behind = _behind_all(program.stages, _ahead(program, state, bits))
    return _picked(behind, program.outs), _picked(behind, program.nexts)


def played(program, lines):
    """The bits of outs in each cycle."""
    if not is_bit_rows(lines, len(program.inputs)):
        raise BadRow(lines)
    state = _resets(program)
    told = []
    for bits in lines:
        outs, state = _cycle_of(program, state, bits)
        told.append(outs)
    return tuple(told)


def meant(program, state, bits):
    """The bits of outs and the next state of one cycle."""
    if not is_bits(state, len(program.registers)):
        raise BadRow(state)
    if not is_bits(bits, len(program.inputs)):
        raise BadRow(bits)
    return _cycle_of(program, state, bits)


def _marks_of_circuit(circuit, marks):
    """On which inputs and registers outputs and nexts rest in a cycle, in marks."""
    marks = list(marks)
    for gate in circuit.gates:
        marks.append(_joined(_picked(marks, gate[1:])))
    return _picked(marks, circuit.outputs + circuit.nexts)


def _rests(program, circuit):
    """For each out and each next the inputs and registers, by numbers, on which it may rest in either one."""
    inputs = len(program.inputs)
    many = inputs + len(program.registers)
    marks = [1 << number for number in range(many)]
    behind = _marks_behind(program.stages, _ahead(program, marks[inputs:], marks[:inputs]))
    others = _marks_of_circuit(circuit, marks)
    return [_marked(behind[row] | other, many) for row, other in zip(program.outs + program.nexts, others)]


def _lots(rests):
    """Pairs of numbers of outs and nexts that are looked at together, and what they rest on."""
    lots = []
    for number, rest in enumerate(rests):
        both = sorted(set(lots[-1][1]) | set(rest)) if lots else []
        if lots and len(both) <= AT_ONCE:
            lots[-1] = (lots[-1][0] + [number], both)
        else:
            lots.append(([number], list(rest)))
    return lots


def _columns(many, ones):
    """For each of so many variables its bits in all cases: in case number c it is bit c of the variable's number."""
    return [ones // ((1 << (1 << number)) + 1) << (1 << number) for number in range(many)]


def _differ(program, circuit, lot, rest):
    """Whether some of a lot of outs and nexts differ for some bits of what they rest on, all others being 0."""
    at_once = rest[:AT_ONCE]
    one_by_one = rest[AT_ONCE:]
    ones = (1 << (1 << len(at_once))) - 1
    given = [0] * (len(program.inputs) + len(program.registers))
    for variable, column in zip(at_once, _columns(len(at_once), ones)):
        given[variable] = column
    for fixed in range(1 << len(one_by_one)):
        for number, variable in enumerate(one_by_one):
            given[variable] = ones * (fixed >> number & 1)
        bits = given[:circuit.inputs]
        state = given[circuit.inputs:]
        outs, behind = _cycle_of(program, state, bits)
        outputs, nexts = cycle_of(circuit, state, bits, ones)
        if _picked(outs + behind, lot) != _picked(outputs + nexts, lot):
            return True
    return False


def does(program, circuit):
    """Whether a program has the inputs, outs and registers of a circuit, and tells the same in each cycle."""
    if len(program.inputs) != circuit.inputs or len(program.outs) != len(circuit.outputs):
        return False
    if _resets(program) != circuit.resets:
        return False
    return not any([_differ(program, circuit, lot, rest) for lot, rest in _lots(_rests(program, circuit))])
