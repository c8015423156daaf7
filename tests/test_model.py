"""What is promised beyond: many drawn lists of calls, against a plain model and run alone."""

import random
import unittest

import rows
from model import Model, numbers_of, record_of

KEYS = [[1], [1, 0], [1, 1], [2], [2, 0], [3], [9] * 64]
WRONG_KEYS = [[], [3] * 65]
VALUES = [[], [1], [1, 2], [0] * 8, [255] * 8, [7] * 300]
ADDED = [0, 1, -1, 5, 2**63 - 1, -(2**63)]
MOST = [0, 1, 2, 3, 5, 1000, -1, 1001]
SLOTS = [0, 1, 2, 7] * 8 + [-1, 8]
DESK_CALLS = [1, 2, 3, 3, 4, 5, 6, 7]
STEPS = [10, 10, 11, 11, 12, 12, 13, 13, 14, 14, 15, 15, 16, 17, 18, 19]


def drawn_key(draw):
    return draw.choice(KEYS if draw.randrange(20) else WRONG_KEYS)


def drawn_start(draw):
    return draw.choice(KEYS + WRONG_KEYS[:1] * 2)


def drawn_changes(draw):
    changes = []
    for turn in range(draw.randrange(4)):
        name = draw.choice(["put", "remove", "add"])
        operand = {"put": draw.choice(VALUES), "remove": None, "add": draw.choice(ADDED)}
        changes.append((name, bytes(draw.choice(KEYS)), operand[name]))
    return changes


def drawn_step(draw, i):
    """A step of transaction i, for the model."""
    number = draw.choice(STEPS)
    given = {
        10: [drawn_key(draw)],
        11: [drawn_key(draw), draw.choice(VALUES if draw.randrange(20) else [[7] * 301])],
        12: [drawn_key(draw)],
        13: [draw.choice(ADDED), drawn_key(draw)],
        14: [draw.randrange(2), drawn_start(draw)],
        15: [draw.randrange(2), drawn_start(draw)],
        16: [draw.choice(MOST), drawn_start(draw), drawn_key(draw)],
        18: [draw.choice([1, 1, 2, 3, 0, 9])],
    }
    return (number, i, *given.get(number, []))


def drawn_call(draw):
    if draw.randrange(3):
        return drawn_step(draw, draw.choice(SLOTS))
    number = draw.choice(DESK_CALLS)
    if number == 7:
        return (7, drawn_changes(draw))
    return (number, *[draw.choice(SLOTS) for turn in range(2 if number == 2 else 1)])


class AgainstTheModel(unittest.TestCase):
    def held(self, calls, seed):
        model = Model()
        wanted = [model.answer(call) for call in calls]
        told = rows.ask(*[numbers_of(call) for call in calls])
        for place, answer in enumerate(told):
            self.assertEqual(answer, wanted[place], (seed, place, calls[place]))
        self.assertEqual(len(told), len(wanted))

    def test_drawn_calls(self):
        for seed in range(400):
            draw = random.Random(seed)
            self.held([drawn_call(draw) for turn in range(100)], seed)

    def test_long_transactions(self):
        for seed in range(100):
            draw = random.Random(seed)
            calls = [(7, [("put", bytes(key), draw.choice(VALUES)) for key in draw.sample(KEYS, 4)]), (1, 0)]
            calls += [drawn_step(draw, 0) for turn in range(60)]
            calls += [(7, drawn_changes(draw)), (3, 0), (1, 1), (16, 1, 9, [], [255])]
            self.held(calls, seed)

    def test_many_keys(self):
        for seed in range(10):
            draw = random.Random(seed)
            keys = [bytes([draw.randrange(4) for place in range(draw.randrange(1, 5))]) for turn in range(200)]
            calls = [(7, [("put", key, [1]) for key in keys[:100]]), (1, 0)]
            for turn in range(150):
                key = list(draw.choice(keys))
                calls.append(draw.choice([
                    (12, 0, key), (13, 0, 1, key), (11, 0, key, [2]), (14, 0, 0, key), (15, 0, 0, key), (14, 0, 1, key),
                    (15, 0, 1, key), (16, 0, 20, key, [3] * 4), (17, 0), (18, 0, draw.randrange(1, 9)),
                ]))
            self.held(calls + [(16, 0, 300, [], [255]), (19, 0), (3, 0), (1, 0), (16, 0, 300, [], [255])], seed)


class AsIfOneAfterAnother(unittest.TestCase):
    """One that doesn't clash would have answered the same, and changed the same, run alone."""

    def test_drawn_transactions(self):
        told_of = {"committed": 0, "looked beside others": 0, "clashed": 0}
        for seed in range(500):
            draw = random.Random(seed)
            self.run_of_many(self.drawn_run(draw), seed, told_of)
        # Else the draw has become one that shows nothing.
        self.assertGreater(told_of["committed"], 1000)
        self.assertGreater(told_of["looked beside others"], 500)
        self.assertGreater(told_of["clashed"], 500)

    def drawn_run(self, draw):
        calls = [(7, [("put", bytes(key), draw.choice(VALUES)) for key in draw.sample(KEYS, 3)]), (5, 0)]
        calls += [(1, i) for i in range(4)]
        for turn in range(80):
            i = draw.randrange(4)
            choice = draw.randrange(20)
            if choice < 3:
                # It begins anew at once: so there is mostly one to be committed.
                calls += [(3, i), draw.choice([(1, i), (1, i), (2, i, 0)])]
            elif choice == 3:
                calls.append(draw.choice([(7, drawn_changes(draw)), (5, 0), (5, 0)]))
            else:
                calls.append(drawn_step(draw, i))
        return calls

    def run_of_many(self, calls, seed, told_of):
        told = rows.ask(*[numbers_of(call) for call in calls])
        model = Model()
        steps = {}
        for place, call in enumerate(calls):
            if call[0] in (1, 2):
                steps[call[1]] = ([], [], dict(model.present if call[0] == 1 else model.kept[0]))
            elif call[0] >= 10 and call[1] in steps:
                steps[call[1]][0].append(call)
                steps[call[1]][1].append(told[place])
            elif call[0] == 3 and call[1] in steps:
                own, answers, state = steps.pop(call[1])
                if told[place] == rows.CLASH:
                    told_of["clashed"] += 1
                else:
                    told_of["committed"] += 1
                    looked = any(step[0] in (10, 14, 15, 16) for step in own)
                    told_of["looked beside others"] += looked and state != model.present
                    after = self.alone(model.present, own + [call], answers + [told[place]], (seed, place))
                    model.answer(call)
                    self.assertEqual(after, self.walked([state_call(model.present)]), (seed, place))
                    continue
            model.answer(call)
        self.assertEqual(
            self.walked([numbers_of(call) for call in calls]), self.walked([state_call(model.present)]), seed,
        )

    def alone(self, state, own, answers, where):
        """Runs a transaction alone on a state; gives back what is there then."""
        calls = [state_call(state), rows.begin(own[-1][1])] + [numbers_of(call) for call in own]
        self.assertEqual(rows.ask(*calls)[2:], answers, where)
        return self.walked(calls)

    def walked(self, calls):
        """All that the present state has once the calls are made, key by key."""
        asked = [rows.begin(7)] + [rows.next_key(7, 1, [])] + [rows.next_key(7, 0, key) for key in sorted(KEYS)]
        return rows.ask(*calls, *asked)[len(calls) + 1:]


def state_call(state):
    return rows.replay(record_of([("put", key, value) for key, value in state.items()]))


if __name__ == "__main__":
    unittest.main()
