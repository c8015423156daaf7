"""Calls as the rows of numbers that are handed in, and answers taken apart again."""

from keystore.desk import answers

DONE = [0, 0]
WRONG = [-1, 0]
ABSENT = [-2, 0]
FULL = [-5, 0]
CLASH = [-7, 0]

LOWEST = -2147483648
HIGHEST = 2147483647
NO_SLOTS = [LOWEST, -1, 8, HIGHEST]


def counted(row):
    return [len(row)] + list(row)


def begin(i):
    return [1, i]


def older(i, j):
    return [2, i, j]


def commit(i):
    return [3, i]


def drop(i):
    return [4, i]


def keep(j):
    return [5, j]


def forget(j):
    return [6, j]


def replay(record):
    return [7] + counted(record)


def get(i, key):
    return [10, i] + counted(key)


def put(i, key, value):
    return [11, i] + counted(key) + counted(value)


def put_record(key, value):
    return [1] + counted(key) + [len(value) % 256, len(value) // 256] + list(value)


def remove_record(key):
    return [2] + counted(key)


def add_record(key, number):
    return [3] + counted(key) + count_bytes(number)


def count_bytes(number):
    return list((number % 2**64).to_bytes(8, "little"))


def found(value):
    return [len(value), 0] + list(value)


def changed(how_many):
    return [how_many, 0]


def apart(told):
    """One row for each answer; fails where the lengths told don't fit."""
    rows = []
    place = 0
    while place < len(told):
        end = place + 1 + told[place]
        if end > len(told):
            raise AssertionError("an answer is cut short")
        rows.append(told[place + 1:end])
        place = end
    return rows


def joined(calls):
    return [number for call in calls for number in call]


def ask(*calls):
    return apart(answers(joined(calls)))


def present(*keys):
    """Calls that show what the present state has for these keys, through transaction 7."""
    return [begin(7)] + [get(7, key) for key in keys]


def seen(calls, *keys):
    """What the present state has for these keys once the calls are made."""
    return ask(*calls, *present(*keys))[len(calls) + 1:]
