"""States: sorted maps from keys to values.

A state is a list of pairs (key, value) in the order of their keys. It is never changed once it
is made: the present state, older ones and those of transactions may be one and the same list.
"""

from keystore.changes import value_after


def empty_state():
    return []


def place_of(state, key):
    """How many of the state's keys are below this key."""
    low = 0
    high = len(state)
    while low < high:
        middle = (low + high) // 2
        if state[middle][0] < key:
            low = middle + 1
        else:
            high = middle
    return low


def stands_at(state, place, key):
    return place < len(state) and state[place][0] == key


def value_at(state, key):
    """The key's value, or None where the state doesn't have it."""
    place = place_of(state, key)
    if stands_at(state, place, key):
        return state[place][1]
    return None


def state_with(state, key, value):
    """Another state, where the key has this value, or isn't there if the value is None."""
    place = place_of(state, key)
    behind = place
    if stands_at(state, place, key):
        behind = place + 1
    pairs = []
    if value is not None:
        pairs = [(key, value)]
    return state[:place] + pairs + state[behind:]


def state_after(state, changes):
    """Another state: this one with the changes done on it, one after another."""
    now = state
    for change in changes:
        key = change[1]
        now = state_with(now, key, value_after(change, value_at(now, key)))
    return now
