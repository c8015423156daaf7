"""Keys, values and changes.

A key and a value are tuples of bytes, so keys compare as the document orders them.
A change is a tuple: its kind, its key, and a value (PUT), None (REMOVE) or a number (ADD).
"""

from keystore.counts import count_raised

# The kinds are the first bytes that changes have in a record.
PUT = 1
REMOVE = 2
ADD = 3

LONGEST_KEY = 64
LONGEST_VALUE = 300


def is_key(row):
    return 1 <= len(row) <= LONGEST_KEY


def is_value(row):
    return len(row) <= LONGEST_VALUE


def settles(change, key):
    """Whether the key's value no longer hangs on what it was before this change."""
    return change[0] != ADD and change[1] == key


def value_after(change, value):
    """The value that the change gives its key, which had this one (None: it wasn't there)."""
    if change[0] == PUT:
        return change[2]
    if change[0] == REMOVE:
        return None
    return count_raised(value, change[2])


def value_by(changes, key, value):
    """The value of one key, which had this one, when all these changes are done."""
    now = value
    for change in changes:
        if change[1] == key:
            now = value_after(change, now)
    return now
