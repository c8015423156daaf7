"""What is promised beyond: many drawn lists of calls, against a plain model and run alone."""

import random
import unittest

import rows
from keystore.desk import answers

KEYS = [[1], [2], [1, 0], [2] * 64, [], [3] * 65]
VALUES = [[], [1], [1, 2], [0] * 8, [255] * 8, [7] * 300, [7] * 301]
SLOTS = [0, 1, 2, 7, 0, 1, 2, 7, -1, 8]


class Model:
    """The document's words done with dicts that are copied whole."""

    def __init__(self):
        self.present = {}
        self.kept = {}
        self.running = {}

    def answer(self, call):
        number, *given = call
        if number == 7:
            return self.replay(given[0])
        if any(not 0 <= slot <= 7 for slot in given if isinstance(slot, int)):
            return rows.WRONG
        return getattr(self, "call_%d" % number)(*given)

    def replay(self, changes):
        if changes is None:
            return rows.WRONG
        do_all(self.present, changes)
        return rows.changed(len(changes))

    def call_1(self, i):
        self.running[i] = (dict(self.present), [], set())
        return rows.DONE

    def call_2(self, i, j):
        if j not in self.kept:
            return rows.ABSENT
        self.running[i] = (dict(self.kept[j]), [], set())
        return rows.DONE

    def call_3(self, i):
        if i not in self.running:
            return rows.ABSENT
        state, changes, looks = self.running.pop(i)
        if any(state.get(key) != self.present.get(key) for key in looks):
            return rows.CLASH
        do_all(self.present, changes)
        return rows.changed(len(changes))

    def call_4(self, i):
        return rows.ABSENT if self.running.pop(i, None) is None else rows.DONE

    def call_5(self, j):
        self.kept[j] = dict(self.present)
        return rows.DONE

    def call_6(self, j):
        return rows.ABSENT if self.kept.pop(j, None) is None else rows.DONE

    def call_10(self, i, key):
        if i not in self.running:
            return rows.ABSENT
        if not 1 <= len(key) <= 64:
            return rows.WRONG
        state, changes, looks = self.running[i]
        if all(change[1] != bytes(key) for change in changes):
            looks.add(bytes(key))
        seen = do_all(dict(state), changes)
        return rows.found(seen[bytes(key)]) if bytes(key) in seen else rows.ABSENT

    def call_11(self, i, key, value):
        if i not in self.running:
            return rows.ABSENT
        if not 1 <= len(key) <= 64 or len(value) > 300:
            return rows.WRONG
        changes = self.running[i][1]
        room = 4000 - sum(4 + len(change[1]) + len(change[2]) for change in changes)
        if 4 + len(key) + len(value) > room:
            return rows.FULL
        changes.append(("put", bytes(key), value))
        return rows.DONE


def do_all(state, changes):
    for name, key, operand in changes:
        if name == "put":
            state[key] = operand
        elif name == "remove":
            state.pop(key, None)
        elif len(state.get(key, [0] * 8)) == 8:
            count = int.from_bytes(bytes(state.get(key, [0] * 8)), "little")
            state[key] = rows.count_bytes(count + operand)
    return state


def drawn_changes(draw):
    changes = []
    for turn in range(draw.randrange(4)):
        key = bytes(draw.choice(KEYS[:4]))
        name = draw.choice(["put", "remove", "add"])
        operand = {"put": draw.choice(VALUES[:6]), "remove": None, "add": draw.choice([1, -1, 2**63 - 1, -(2**63)])}
        changes.append((name, key, operand[name]))
    return changes


def record_of(changes):
    record = []
    for name, key, operand in changes:
        if name == "put":
            record += rows.put_record(key, operand)
        elif name == "remove":
            record += rows.remove_record(key)
        else:
            record += rows.add_record(key, operand)
    return record


def drawn_call(draw):
    """A call for the model, and the same as numbers."""
    number = draw.choice([1, 2, 3, 3, 4, 5, 6, 7, 10, 10, 10, 10, 11, 11, 11])
    if number == 7:
        changes = drawn_changes(draw)
        record = record_of(changes)
        if draw.randrange(4) == 0:
            return (7, None), rows.replay(record + [draw.choice([0, 1, 2, 3, 4])])
        return (7, changes), rows.replay(record)
    given = [draw.choice(SLOTS) for turn in range(2 if number == 2 else 1)]
    numbers = [number] + given
    for choices in [KEYS, VALUES][:max(0, number - 9)]:
        row = draw.choice(choices)
        given.append(row)
        numbers = numbers + rows.counted(row)
    return (number, *given), numbers


class AgainstTheModel(unittest.TestCase):
    def test_drawn_calls(self):
        for seed in range(300):
            draw = random.Random(seed)
            drawn = [drawn_call(draw) for turn in range(120)]
            model = Model()
            wanted = [model.answer(call) for call, numbers in drawn]
            told = rows.apart(answers(rows.joined(numbers for call, numbers in drawn)))
            for place, answer in enumerate(told):
                self.assertEqual(answer, wanted[place], (seed, place, drawn[place]))
            self.assertEqual(len(told), len(wanted))


class AsIfOneAfterAnother(unittest.TestCase):
    """One that doesn't clash would have answered the same, run alone on the state there now."""

    def test_drawn_transactions(self):
        committed = 0
        for seed in range(300):
            draw = random.Random(seed)
            steps = {i: [rows.begin(i)] for i in range(4)}
            for i in steps:
                for turn in range(draw.randrange(1, 5)):
                    key = draw.choice(KEYS[:4])
                    steps[i].append(draw.choice([rows.get(i, key), rows.put(i, key, draw.choice(VALUES[:6]))]))
                steps[i].append(rows.commit(i))
            at_once = self.mixed(draw, steps)
            told = rows.ask(*[call for i, call in at_once])
            done = [i for (i, call), answer in zip(at_once, told) if call == rows.commit(i) and answer != rows.CLASH]
            committed += len(done)
            one_by_one = [(i, call) for i in done for call in steps[i]]
            alone = rows.ask(*[call for i, call in one_by_one], *rows.present(*KEYS[:4]))
            for i in done:
                self.assertEqual(
                    [answer for (owner, call), answer in zip(at_once, told) if owner == i],
                    [answer for (owner, call), answer in zip(one_by_one, alone) if owner == i],
                    (seed, i),
                )
            self.assertEqual(rows.seen([call for i, call in at_once], *KEYS[:4]), alone[len(one_by_one) + 1:])
        self.assertGreater(committed, 300)

    def mixed(self, draw, steps):
        left = {i: list(calls) for i, calls in steps.items()}
        order = []
        while left:
            i = draw.choice(sorted(left))
            order.append((i, left[i].pop(0)))
            if not left[i]:
                del left[i]
        return order


if __name__ == "__main__":
    unittest.main()
