"""States: sorted maps from keys to values, and changes done on them."""

from keystore.changes import value_after
from keystore.maps import map_with, value_at


def state_after(state, changes):
    """Another state: this one with the changes done on it, one after another."""
    now = state
    for change in changes:
        key = change[1]
        now = map_with(now, key, value_after(change, value_at(now, key)))
    return now
