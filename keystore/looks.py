"""What a transaction has looked at, which a commit hangs on.

A stretch is a pair: the key that it is from (or no bytes), and the key that it is to (None:
without end). Both keys belong to it.
"""

from keystore.maps import part_between, value_at

MOST_LOOKS = 1000
MOST_COMPARED = 99999


class Looks:
    def __init__(self):
        # Dicts of True: each key and each stretch stands there once, in order.
        self.single_keys = {}
        self.stretches = {}

    def has_room(self, more):
        return len(self.single_keys) + len(self.stretches) + more <= MOST_LOOKS

    def look_at_key(self, key):
        self.single_keys[key] = True

    def look_at_stretch(self, low, high):
        self.stretches[(low, high)] = True

    def differ(self, one, other):
        """Whether something that was looked at isn't the same in two states."""
        if one == other:
            return False
        if any([value_at(one, key) != value_at(other, key) for key in self.single_keys]):
            return True
        return any([stretch_differs(one, other, stretch) for stretch in self.stretches])


def stretch_differs(one, other, stretch):
    part = part_between(one, stretch[0], stretch[1])
    return len(part) > MOST_COMPARED or part != part_between(other, stretch[0], stretch[1])
