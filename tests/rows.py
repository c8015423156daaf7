"""Calls as the rows of numbers that are handed in, and answers taken apart again."""

from keystore.desk import answers

DONE = [0, 0]
WRONG = [-1, 0]
ABSENT = [-2, 0]
FULL = [-5, 0]
CLASH = [-7, 0]

LOWEST = -2147483648
HIGHEST = 2147483647
NO_SLOTS = [LOWEST, -1, 8, HIGHEST]

# The least and the most that add may be given.
LEAST = -(2**63)
MOST = 2**63 - 1

# Keys, in their order, between what stands ahead of all keys and the greatest there is.
NONE = []
A = [65]
B = [66]
C = [67]
D = [68]
E = [69]
LAST = [255] * 64


def key_number(number):
    return [number // 256, number % 256]


def counted(row):
    return [len(row)] + list(row)


def begin(i):
    return [1, i]


def older(i, j):
    return [2, i, j]


def commit(i):
    return [3, i]


def drop(i):
    return [4, i]


def keep(j):
    return [5, j]


def forget(j):
    return [6, j]


def replay(record):
    return [7] + counted(record)


def get(i, key):
    return [10, i] + counted(key)


def put(i, key, value):
    return [11, i] + counted(key) + counted(value)


def remove(i, key):
    return [12, i] + counted(key)


def add(i, number, key):
    return [13, i, number] + counted(key)


def next_key(i, itself, key):
    return [14, i, itself] + counted(key)


def before(i, itself, key):
    return [15, i, itself] + counted(key)


def count(i, most, one, another):
    return [16, i, most] + counted(one) + counted(another)


def save(i):
    return [17, i]


def back(i, number):
    return [18, i, number]


def list_changes(i):
    return [19, i]


def put_record(key, value):
    return [1] + counted(key) + [len(value) % 256, len(value) // 256] + list(value)


def remove_record(key):
    return [2] + counted(key)


def add_record(key, number):
    return [3] + counted(key) + count_bytes(number)


def count_bytes(number):
    return list((number % 2**64).to_bytes(8, "little"))


def found(value):
    return [len(value), 0] + list(value)


def key_found(key, value):
    return [len(value), len(key)] + list(key) + list(value)


def listed(*records):
    return [len(records), 0] + joined(records)


def filled(*keys):
    """A replay that puts each key, with its own bytes as its value."""
    return replay(joined(put_record(key, key) for key in keys))


def changed(how_many):
    return [how_many, 0]


def apart(told):
    """One row for each answer; fails where the lengths told don't fit."""
    rows = []
    place = 0
    while place < len(told):
        end = place + 1 + told[place]
        if end > len(told):
            raise AssertionError("an answer is cut short")
        rows.append(told[place + 1:end])
        place = end
    return rows


def joined(calls):
    return [number for call in calls for number in call]


def ask(*calls):
    return apart(answers(joined(calls)))


def present(*keys):
    """Calls that show what the present state has for these keys, through transaction 7."""
    return [begin(7)] + [get(7, key) for key in keys]


def seen(calls, *keys):
    """What the present state has for these keys once the calls are made."""
    return ask(*calls, *present(*keys))[len(calls) + 1:]


def looks_of(i, calls):
    """How many looks transaction i has once the calls are made, by the most that count takes then."""
    low, high = 0, 1000
    while low < high:
        most = (low + high + 1) // 2
        if ask(*calls, count(i, most, [255] * 64, [1]))[-1] == FULL:
            high = most - 1
        else:
            low = most
    return 1000 - low
