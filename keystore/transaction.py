"""A transaction: the state that it began with, its changes, and what it has looked at."""

from keystore.changes import PUT, is_key, is_value, settles, value_by
from keystore.record import change_bytes
from keystore.replies import DONE, FULL, WRONG, reply, value_reply
from keystore.state import value_at

MOST_LOOKS = 1000
LONGEST_RECORD = 4000


class Transaction:
    def __init__(self, state):
        self.beginning = state
        self.changes = []
        # Kept beside the changes, so that a change more needn't go through all of them.
        self.record_length = 0
        # A dict of True: each key that was looked at stands there once, in order.
        self.looks = {}

    def get(self, key):
        if not is_key(key):
            return reply(WRONG)
        if not self.is_settled(key):
            if len(self.looks) >= MOST_LOOKS:
                return reply(FULL)
            # Also where it isn't there: that, too, is something a commit hangs on.
            self.looks[key] = True
        return value_reply(value_by(self.changes, key, value_at(self.beginning, key)))

    def put(self, key, value):
        if not (is_key(key) and is_value(value)):
            return reply(WRONG)
        return self.change_more((PUT, key, value))

    def change_more(self, change):
        length = self.record_length + len(change_bytes(change))
        if length > LONGEST_RECORD:
            return reply(FULL)
        self.changes.append(change)
        self.record_length = length
        return reply(DONE)

    def is_settled(self, key):
        return any([settles(change, key) for change in self.changes])

    def clashes_with(self, state):
        """Whether a key that was looked at has another value in this state."""
        return any([value_at(self.beginning, key) != value_at(state, key) for key in self.looks])
