"""What calls answer: a number, how many bytes the key has that is told, then bytes."""

DONE = 0
WRONG = -1
ABSENT = -2
FULL = -5
CLASH = -7


def reply(number):
    """A number alone; no key is told."""
    return [number, 0]


def value_reply(value):
    """How long a value is, and it; ABSENT where it is None."""
    if value is None:
        return reply(ABSENT)
    return reply(len(value)) + list(value)


def key_reply(key, value):
    """How long a key's value is; the key, the value."""
    return [len(value), len(key)] + list(key) + list(value)


def record_reply(how_many, record):
    return reply(how_many) + list(record)
