"""The document's words done plainly: states are dicts that are copied whole, changes are done anew each time.

A call is handed to the model as a tuple: its number, then what it is given.
"""

import rows


class Running:
    """A transaction of the model."""

    def __init__(self, state):
        self.state = dict(state)
        self.changes = []
        self.savepoints = []
        self.looks = []

    def look(self, what):
        if what not in self.looks:
            self.looks.append(what)

    def settled(self, key):
        return any(change[1] == key and change[0] != "add" for change in self.changes)

    def value(self, key, state):
        only = {key: state[key]} if key in state else {}
        return do_all(only, [change for change in self.changes if change[1] == key]).get(key)

    def change_more(self, change):
        if len(record_of(self.changes + [change])) > 4000:
            return rows.FULL
        self.changes.append(change)
        return rows.DONE

    def nearest(self, key, itself, side):
        def on_that_side(keys):
            near = [one for one in keys if (one > key if side == "next" else one < key) or (itself and one == key)]
            return sorted(near, reverse=side == "before")

        state_keys = [one for one in on_that_side(self.state) if self.value(one, self.state) is not None]
        own = {change[1] for change in self.changes}
        own_keys = [one for one in on_that_side(own) if not self.settled(one) or self.value(one, {}) is not None]
        found = on_that_side(set(state_keys[:1] + own_keys[:1]))[:1]
        if side == "next":
            self.look((key, found[0] if found else None))
        else:
            self.look((found[0] if found else b"", key))
        return found[0] if found else None

    def clashes(self, present):
        return any(self.look_differs(look, present) for look in self.looks)

    def look_differs(self, look, present):
        if isinstance(look, bytes):
            return self.state.get(look) != present.get(look)
        low, high = look
        parts = [
            {key: value for key, value in state.items() if low <= key and (high is None or key <= high)}
            for state in (self.state, present)
        ]
        return parts[0] != parts[1]


class Model:
    def __init__(self):
        self.present = {}
        self.kept = {}
        self.running = {}

    def answer(self, call):
        number, *given = call
        if number == 7:
            return self.replay(*given)
        slots = given[:2] if number == 2 else given[:1]
        if any(not 0 <= slot <= 7 for slot in slots):
            return rows.WRONG
        if number in (3, 4) or number >= 10:
            if given[0] not in self.running:
                return rows.ABSENT
        if number < 10:
            return getattr(self, "call_%d" % number)(*given)
        return getattr(self, "step_%d" % number)(self.running[given[0]], *given[1:])

    def replay(self, changes):
        if changes is None:
            return rows.WRONG
        do_all(self.present, changes)
        return rows.changed(len(changes))

    def call_1(self, i):
        self.running[i] = Running(self.present)
        return rows.DONE

    def call_2(self, i, j):
        if j not in self.kept:
            return rows.ABSENT
        self.running[i] = Running(self.kept[j])
        return rows.DONE

    def call_3(self, i):
        running = self.running.pop(i)
        if running.clashes(self.present):
            return rows.CLASH
        do_all(self.present, running.changes)
        return rows.changed(len(running.changes))

    def call_4(self, i):
        self.running.pop(i)
        return rows.DONE

    def call_5(self, j):
        self.kept[j] = dict(self.present)
        return rows.DONE

    def call_6(self, j):
        return rows.ABSENT if self.kept.pop(j, None) is None else rows.DONE

    def step_10(self, running, key):
        if not is_key(key):
            return rows.WRONG
        if not running.settled(bytes(key)):
            if len(running.looks) == 1000:
                return rows.FULL
            running.look(bytes(key))
        value = running.value(bytes(key), running.state)
        return rows.ABSENT if value is None else rows.found(value)

    def step_11(self, running, key, value):
        if not is_key(key) or len(value) > 300:
            return rows.WRONG
        return running.change_more(("put", bytes(key), value))

    def step_12(self, running, key):
        if not is_key(key):
            return rows.WRONG
        return running.change_more(("remove", bytes(key), None))

    def step_13(self, running, number, key):
        if not is_key(key):
            return rows.WRONG
        return running.change_more(("add", bytes(key), number))

    def step_14(self, running, itself, key):
        return self.nearest(running, itself, key, "next")

    def step_15(self, running, itself, key):
        return self.nearest(running, itself, key, "before")

    def nearest(self, running, itself, key, side):
        if len(key) > 64:
            return rows.WRONG
        if len(running.looks) == 1000:
            return rows.FULL
        found = running.nearest(bytes(key), itself, side)
        return rows.ABSENT if found is None else rows.key_found(found, running.value(found, running.state))

    def step_16(self, running, most, one, another):
        if len(one) > 64 or not is_key(another) or not 0 <= most <= 1000:
            return rows.WRONG
        if len(running.looks) + most > 1000:
            return rows.FULL
        keys = []
        while len(keys) < most:
            found = running.nearest(keys[-1] if keys else bytes(one), not keys, "next")
            if found is None or found > bytes(another):
                break
            keys.append(found)
        return [len(keys), 0]

    def step_17(self, running):
        if len(running.savepoints) == 8:
            return rows.FULL
        running.savepoints.append(len(running.changes))
        return [len(running.savepoints), 0]

    def step_18(self, running, number):
        if not 1 <= number <= len(running.savepoints):
            return rows.ABSENT
        running.changes = running.changes[:running.savepoints[number - 1]]
        running.savepoints = running.savepoints[:number]
        return rows.DONE

    def step_19(self, running):
        return [len(running.changes), 0] + record_of(running.changes)


def is_key(row):
    return 1 <= len(row) <= 64


def do_all(state, changes):
    for name, key, operand in changes:
        if name == "put":
            state[key] = operand
        elif name == "remove":
            state.pop(key, None)
        elif len(state.get(key, [0] * 8)) == 8:
            count = int.from_bytes(bytes(state.get(key, [0] * 8)), "little")
            state[key] = rows.count_bytes(count + operand)
    return state


def record_of(changes):
    record = []
    for name, key, operand in changes:
        if name == "put":
            record += rows.put_record(key, operand)
        elif name == "remove":
            record += rows.remove_record(key)
        else:
            record += rows.add_record(key, operand)
    return record


def numbers_of(call):
    """A call of the model as it is handed in."""
    number, *given = call
    if number == 7:
        return rows.replay(record_of(given[0]))
    numbers = [number]
    for one in given:
        numbers += [one] if isinstance(one, int) else rows.counted(one)
    return numbers
