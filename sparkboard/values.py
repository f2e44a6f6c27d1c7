"""The helper of all modules: which values are integers, rows and bits."""


def is_integer(value):
    """Whether a value is an int that is not a bool."""
    return isinstance(value, int) and not isinstance(value, bool)


def is_from(value, low):
    """Whether a value is an integer from low on."""
    return is_integer(value) and value >= low


def is_below(value, end):
    """Whether a value is an integer from 0 to below end."""
    return is_integer(value) and 0 <= value < end


def is_row(value):
    """Whether a value may be passed as a row: lists stand for tuples."""
    return isinstance(value, (tuple, list))


def is_bits(value, many):
    """Whether a value is a row of so many 0 and 1."""
    return is_row(value) and len(value) == many and all([is_below(bit, 2) for bit in value])


def is_bit_rows(value, many):
    """Whether a value is a row of rows, each of so many 0 and 1."""
    return is_row(value) and all([is_bits(row, many) for row in value])


def are_told_bit_rows(value, many):
    """Whether a value is a tuple of tuples, each of so many 0 and 1."""
    return isinstance(value, tuple) and all([isinstance(row, tuple) for row in value]) and is_bit_rows(value, many)


def kept(value):
    """The value as an object keeps it: a list may be changed later, so it is copied."""
    return tuple(value) if isinstance(value, list) else value


def all_bits(many):
    """All rows of so many bits, ascending."""
    rows = [()]
    for _ in range(many):
        rows = [row + (bit,) for row in rows for bit in (0, 1)]
    return rows
