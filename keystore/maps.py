"""Sorted maps from keys to what belongs to them.

A map is a list of pairs (key, value) in the order of their keys. It is never changed once it is
made: several owners may have one and the same list.
"""

# The two sides of a key, as steps from one place of a map to another.
UP = 1
DOWN = -1


def empty_map():
    return []


def place_of(pairs, key):
    """How many of the map's keys are below this key."""
    low = 0
    high = len(pairs)
    while low < high:
        middle = (low + high) // 2
        if pairs[middle][0] < key:
            low = middle + 1
        else:
            high = middle
    return low


def place_behind(pairs, key):
    """How many of the map's keys are below this key or are it."""
    place = place_of(pairs, key)
    if stands_at(pairs, place, key):
        return place + 1
    return place


def stands_at(pairs, place, key):
    return place < len(pairs) and pairs[place][0] == key


def value_at(pairs, key):
    """The key's value, or None where the map doesn't have it."""
    place = place_of(pairs, key)
    if stands_at(pairs, place, key):
        return pairs[place][1]
    return None


def map_with(pairs, key, value):
    """Another map, where the key has this value, or isn't there if the value is None."""
    middle = []
    if value is not None:
        middle = [(key, value)]
    return pairs[:place_of(pairs, key)] + middle + pairs[place_behind(pairs, key):]


def first_place(pairs, key, itself, way):
    """Where the keys on that side of a key begin, nearest first: maybe just outside of the map."""
    if way == UP and itself:
        return place_of(pairs, key)
    if way == UP:
        return place_behind(pairs, key)
    if itself:
        return place_behind(pairs, key) - 1
    return place_of(pairs, key) - 1


def part_between(pairs, low, high):
    """The pairs from one key to another, both among them; without end if the other is None."""
    start = place_of(pairs, low)
    if high is None:
        return pairs[start:]
    return pairs[start:place_behind(pairs, high)]
