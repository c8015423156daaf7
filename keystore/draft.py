"""What a transaction has gathered: its changes, their record, and what they do key by key."""

from keystore.changes import ADD, REMOVE, change_of_both, value_after
from keystore.maps import empty_map, first_place, map_with, value_at
from keystore.record import change_bytes


class Draft:
    """Never changed once it is made: so the draft that there was can serve as a savepoint."""

    def __init__(self, changes, record, effects):
        self.changes = changes
        self.record = record
        # A sorted map from each changed key to the one change that does what all of its own do:
        # going through all changes for each key on a walk would take too long.
        self.effects = effects


def empty_draft():
    return Draft((), (), empty_map())


def draft_with(draft, change):
    """Another draft, with a change more."""
    changes = draft.changes + (change,)
    record = draft.record + change_bytes(change)
    effects = map_with(draft.effects, change[1], effect_with(draft, change))
    return Draft(changes, record, effects)


def effect_with(draft, change):
    """The one change that does what all changes of this key do, this one behind the others."""
    effect = value_at(draft.effects, change[1])
    if effect is None:
        return change
    return change_of_both(effect, change)


def is_settled(draft, key):
    """Whether the key's value by the changes no longer hangs on what it was before."""
    effect = value_at(draft.effects, key)
    return effect is not None and effect[0] != ADD


def is_removed(draft, key):
    """Whether the key has no value by the changes, whatever it was before."""
    effect = value_at(draft.effects, key)
    return effect is not None and effect[0] == REMOVE


def value_by(draft, key, value):
    """The value of a key, which had this one, when all the changes are done."""
    effect = value_at(draft.effects, key)
    if effect is None:
        return value
    return value_after(effect, value)


def nearest_left(draft, pairs, key, itself, way):
    """The nearest key of a map on that side which the changes don't remove, or None."""
    place = first_place(pairs, key, itself, way)
    while 0 <= place < len(pairs):
        found = pairs[place][0]
        if not is_removed(draft, found):
            return found
        place += way
    return None
