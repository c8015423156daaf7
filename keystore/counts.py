"""Whole numbers as bytes, the lowest byte first, and the counts that are kept as such."""

COUNT_LENGTH = 8
COUNTS_END = 9223372036854775808
COUNTS_IN_ALL = 18446744073709551616


def is_number(number):
    """Whether a count can be this number, or be so much more by a change."""
    return -COUNTS_END <= number < COUNTS_END


def low_first(number, length):
    """So many bytes of a number, which is taken modulo what they can hold."""
    row = []
    rest = number
    for place in range(length):
        row.append(rest % 256)
        rest = rest // 256
    return tuple(row)


def whole_number(row):
    """The number from 0 on that these bytes tell."""
    total = 0
    for byte in reversed(row):
        total = total * 256 + byte
    return total


def count_told(row):
    """The number, maybe below 0, that the 8 bytes of a count tell."""
    total = whole_number(row)
    if total >= COUNTS_END:
        return total - COUNTS_IN_ALL
    return total


def count_raised(value, number):
    """The value of a key (None where it isn't there) when its count is so much more."""
    if value is None:
        return low_first(number, COUNT_LENGTH)
    if len(value) != COUNT_LENGTH:
        return value
    return low_first(count_told(value) + number, COUNT_LENGTH)
