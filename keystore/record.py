"""Changes as bytes, and bytes as changes."""

from keystore.changes import ADD, PUT, REMOVE, is_key, is_value
from keystore.counts import COUNT_LENGTH, count_told, low_first, whole_number
from keystore.reader import Reader, WrongForm

# How many bytes tell how long a value is.
LENGTH_BYTES = 2


def change_bytes(change):
    """The record of one change."""
    key = change[1]
    head = (change[0], len(key)) + key
    if change[0] == PUT:
        return head + low_first(len(change[2]), LENGTH_BYTES) + change[2]
    if change[0] == ADD:
        return head + low_first(change[2], COUNT_LENGTH)
    return head


def read_record(row):
    """The changes that these bytes tell; WrongForm is raised where they are no record."""
    reader = Reader(row)
    changes = []
    while not reader.ended():
        changes.append(read_change(reader))
    return changes


def read_change(reader):
    kind = reader.take_one()
    if kind not in (PUT, REMOVE, ADD):
        raise WrongForm("no change begins so")
    key = read_key(reader)
    if kind == PUT:
        return (PUT, key, read_value(reader))
    if kind == ADD:
        return (ADD, key, count_told(reader.take(COUNT_LENGTH)))
    return (REMOVE, key, None)


def read_key(reader):
    key = reader.take_counted()
    if not is_key(key):
        raise WrongForm("no key is of this length")
    return key


def read_value(reader):
    length = whole_number(reader.take(LENGTH_BYTES))
    value = reader.take(length)
    if not is_value(value):
        raise WrongForm("no value is of this length")
    return value
