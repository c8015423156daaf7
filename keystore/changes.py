"""Keys, values and changes.

A key and a value are tuples of bytes, so keys compare as the document orders them.
A change is a tuple: its kind, its key, and a value (PUT), None (REMOVE) or a number (ADD).
"""

from keystore.counts import count_raised

# The kinds are the first bytes that changes have in a record.
PUT = 1
REMOVE = 2
ADD = 3

LONGEST_KEY = 64
LONGEST_VALUE = 300

# Stands ahead of all keys where a key or none may be told.
NO_BYTES = ()


def is_key(row):
    return 1 <= len(row) <= LONGEST_KEY


def is_start(row):
    """Whether these are a key or no bytes."""
    return len(row) <= LONGEST_KEY


def is_value(row):
    return len(row) <= LONGEST_VALUE


def value_after(change, value):
    """The value that the change gives its key, which had this one (None: it wasn't there)."""
    if change[0] == PUT:
        return change[2]
    if change[0] == REMOVE:
        return None
    return count_raised(value, change[2])


def change_of_both(earlier, later):
    """The one change that does what two changes of a key do, one after the other."""
    if later[0] != ADD:
        return later
    if earlier[0] == ADD:
        # Maybe more than a change of a record can add; it is taken modulo 2^64 all the same.
        return (ADD, later[1], earlier[2] + later[2])
    return (PUT, later[1], value_after(later, earlier[2]))
