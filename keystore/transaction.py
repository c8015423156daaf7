"""A transaction: the state that it began with, its changes, and what it has looked at."""

from keystore.changes import ADD, NO_BYTES, PUT, REMOVE, is_key, is_start, is_value
from keystore.counts import is_number
from keystore.draft import draft_with, empty_draft, is_settled, nearest_left, value_by
from keystore.looks import Looks
from keystore.maps import UP, value_at
from keystore.replies import ABSENT, DONE, FULL, WRONG, key_reply, record_reply, reply, value_reply

LONGEST_RECORD = 4000
MOST_SAVEPOINTS = 8
MOST_COUNTED = 1000


class Transaction:
    def __init__(self, state):
        self.beginning = state
        self.draft = empty_draft()
        # The drafts that there were; savepoint 1 is the first.
        self.savepoints = []
        self.looks = Looks()

    def get(self, key):
        if not is_key(key):
            return reply(WRONG)
        if not is_settled(self.draft, key):
            if not self.looks.has_room(1):
                return reply(FULL)
            # Also where it isn't there: that, too, is something a commit hangs on.
            self.looks.look_at_key(key)
        return value_reply(self.value_seen(key))

    def value_seen(self, key):
        return value_by(self.draft, key, value_at(self.beginning, key))

    def put(self, key, value):
        if not (is_key(key) and is_value(value)):
            return reply(WRONG)
        return self.change_more((PUT, key, value))

    def remove(self, key):
        if not is_key(key):
            return reply(WRONG)
        return self.change_more((REMOVE, key, None))

    def add(self, key, number):
        if not (is_key(key) and is_number(number)):
            return reply(WRONG)
        return self.change_more((ADD, key, number))

    def change_more(self, change):
        draft = draft_with(self.draft, change)
        if len(draft.record) > LONGEST_RECORD:
            return reply(FULL)
        self.draft = draft
        return reply(DONE)

    def nearest(self, key, itself, way):
        """What next (UP) and before (DOWN) answer."""
        if not (is_start(key) and itself in (0, 1)):
            return reply(WRONG)
        if not self.looks.has_room(1):
            return reply(FULL)
        found = self.look_from(key, itself, way)
        if found is None:
            return reply(ABSENT)
        return key_reply(found, self.value_seen(found))

    def look_from(self, key, itself, way):
        """The nearest key that is seen on that side, or None; the stretch up to it is looked at."""
        state_key = nearest_left(self.draft, self.beginning, key, itself, way)
        own_key = nearest_left(self.draft, self.draft.effects, key, itself, way)
        found = nearer(state_key, own_key, way)
        if way == UP:
            self.looks.look_at_stretch(key, found)
        elif found is None:
            self.looks.look_at_stretch(NO_BYTES, key)
        else:
            self.looks.look_at_stretch(found, key)
        return found

    def count(self, one, another, most):
        if not (is_start(one) and is_key(another) and 0 <= most <= MOST_COUNTED):
            return reply(WRONG)
        if not self.looks.has_room(most):
            return reply(FULL)
        return reply(self.how_many(one, another, most))

    def how_many(self, one, another, most):
        counted = 0
        found = one
        while counted < most:
            # Only the key that it begins with is wanted itself: the others were counted already.
            found = self.look_from(found, counted == 0, UP)
            if found is None or found > another:
                break
            counted += 1
        return counted

    def save(self):
        if len(self.savepoints) == MOST_SAVEPOINTS:
            return reply(FULL)
        self.savepoints.append(self.draft)
        return reply(len(self.savepoints))

    def back(self, number):
        if not 1 <= number <= len(self.savepoints):
            return reply(ABSENT)
        self.draft = self.savepoints[number - 1]
        self.savepoints = self.savepoints[:number]
        return reply(DONE)

    def list_changes(self):
        return record_reply(len(self.draft.changes), self.draft.record)

    def clashes_with(self, state):
        return self.looks.differ(self.beginning, state)


def nearer(one, other, way):
    """Of two keys on one side, each maybe None, the one that is nearer."""
    keys = [key for key in (one, other) if key is not None]
    if way == UP:
        return min(keys, default=None)
    return max(keys, default=None)
