"""Points 5 and 9: next and before."""

import unittest

import rows
from rows import (
    A, ABSENT, B, C, D, DONE, E, FULL, NONE, WRONG, add, ask, before, begin, changed, commit, count_bytes, filled,
    get, key_found, key_number, list_changes, next_key, put, remove, replay,
)

# In their order: by the first byte that's another, a beginning before what it begins.
IN_ORDER = [[0], [0, 0], [0, 1], [0, 255], [0, 255, 3], [1], [1, 0], [1] * 63, [1] * 64, [2], [128], [255], [255] * 64]


def told(calls, *asked):
    return ask(*calls, *asked)[len(calls):]


def tells(key):
    """The answer where a key is found that filled has put."""
    return key_found(key, key)


class OfTheState(unittest.TestCase):
    three = [filled(B, D, A + B), begin(0)]

    def test_next(self):
        wanted = {
            (): (A + B, A + B), (64,): (A + B, A + B), (65,): (A + B, A + B), (65, 66): (B, A + B),
            (65, 66, 0): (B, B), (66,): (D, B), (67,): (D, D), (68,): (None, D), (68, 0): (None, None),
            (69,): (None, None),
        }
        for key, found in wanted.items():
            for itself in [0, 1]:
                answer = ABSENT if found[itself] is None else tells(found[itself])
                with self.subTest(key=key, itself=itself):
                    self.assertEqual(told(self.three, next_key(0, itself, key)), [answer])

    def test_before(self):
        wanted = {
            (): (None, None), (64,): (None, None), (65,): (None, None), (65, 66): (None, A + B),
            (65, 66, 0): (A + B, A + B), (66,): (A + B, B), (67,): (B, B), (68,): (B, D), (68, 0): (D, D),
            (69,): (D, D),
        }
        for key, found in wanted.items():
            for itself in [0, 1]:
                answer = ABSENT if found[itself] is None else tells(found[itself])
                with self.subTest(key=key, itself=itself):
                    self.assertEqual(told(self.three, before(0, itself, key)), [answer])

    def test_an_empty_state(self):
        for key in [NONE, [0], A, [255] * 64]:
            for itself in [0, 1]:
                calls = [begin(0), next_key(0, itself, key), before(0, itself, key)]
                self.assertEqual(ask(*calls)[1:], [ABSENT, ABSENT])

    def test_all_keys_up_and_down(self):
        calls = [filled(*reversed(IN_ORDER)), begin(0)]
        for place, key in enumerate(IN_ORDER):
            above = tells(IN_ORDER[place + 1]) if place + 1 < len(IN_ORDER) else ABSENT
            below = tells(IN_ORDER[place - 1]) if place > 0 else ABSENT
            with self.subTest(key=key):
                asked = [next_key(0, 0, key), next_key(0, 1, key), before(0, 0, key), before(0, 1, key)]
                self.assertEqual(told(calls, *asked), [above, tells(key), below, tells(key)])

    def test_no_bytes_stand_ahead_of_all_keys(self):
        calls = [filled([0], [0, 0]), begin(0)]
        for itself in [0, 1]:
            self.assertEqual(told(calls, next_key(0, itself, NONE), before(0, itself, NONE)), [tells([0]), ABSENT])

    def test_before_no_bytes_with_changes_of_its_own(self):
        calls = [filled([0]), begin(0), put(0, [0], A), add(0, 1, [0, 0]), put(0, [1], A)]
        for itself in [0, 1]:
            self.assertEqual(told(calls, before(0, itself, NONE)), [ABSENT])

    def test_an_empty_value(self):
        calls = [replay(rows.put_record(A + B, [])), begin(0), next_key(0, 0, NONE), before(0, 0, C)]
        self.assertEqual(ask(*calls)[2:], [[0, 2, 65, 66], [0, 2, 65, 66]])

    def test_the_longest_key_and_value(self):
        calls = [replay(rows.put_record([9] * 64, [8] * 300)), begin(0), next_key(0, 0, NONE), before(0, 1, [9] * 64)]
        self.assertEqual(ask(*calls)[2:], [[300, 64] + [9] * 64 + [8] * 300] * 2)

    def test_the_state_that_it_began_with(self):
        calls = [filled(B), begin(0), filled(A), replay(rows.remove_record(B))]
        self.assertEqual(told(calls, next_key(0, 0, NONE), before(0, 0, E)), [tells(B), tells(B)])

    def test_an_older_state(self):
        calls = [filled(B), rows.keep(3), filled(A), rows.older(0, 3), next_key(0, 0, NONE), before(0, 0, B)]
        self.assertEqual(ask(*calls)[4:], [tells(B), ABSENT])

    def test_nothing_is_changed(self):
        calls = [filled(B), begin(0), next_key(0, 0, NONE), before(0, 0, C), next_key(0, 0, C), list_changes(0)]
        self.assertEqual(ask(*calls, commit(0))[-2:], [rows.listed(), changed(0)])


class Refused(unittest.TestCase):
    def test_lengths_of_keys(self):
        for length, answer in [(0, ABSENT), (1, ABSENT), (64, ABSENT), (65, WRONG), (6000, WRONG)]:
            for itself in [0, 1]:
                key = [9] * length
                with self.subTest(length=length):
                    self.assertEqual(told([begin(0)], next_key(0, itself, key)), [answer])
                    self.assertEqual(told([begin(0)], before(0, itself, key)), [answer])

    def test_a_wrong_key_is_no_look(self):
        calls = [filled(A), begin(0), next_key(0, 0, [9] * 65), before(0, 1, [9] * 65)]
        self.assertEqual(rows.looks_of(0, calls), 0)
        self.assertEqual(told(calls, filled(A + [0]), commit(0))[-1], DONE)

    def test_wrong_numbers_of_itself(self):
        for itself in [-1, 2]:
            calls = [filled(A), begin(0), next_key(0, itself, A), before(0, itself, A)]
            self.assertEqual(ask(*calls)[2:], [WRONG, WRONG])


class WithRemovedKeys(unittest.TestCase):
    def seen(self, *changes):
        """Keys of A to E that are seen, going up, and then going down."""
        calls = [filled(A, B, C, D, E), begin(0), *changes]
        return self.walked(calls, next_key, NONE), self.walked(calls, before, [255])

    def walked(self, calls, step, start):
        keys = []
        key = start
        while True:
            answer = told(calls, step(0, 0, key))[0]
            if answer == ABSENT:
                return keys
            key = answer[2:2 + answer[1]]
            keys.append(key)
            self.assertEqual(told(calls, step(0, 1, key))[0], answer)

    def test_one(self):
        for gone in [A, B, C, D, E]:
            left = [key for key in [A, B, C, D, E] if key != gone]
            with self.subTest(gone=gone):
                self.assertEqual(self.seen(remove(0, gone)), (left, left[::-1]))

    def test_several_one_behind_another(self):
        self.assertEqual(self.seen(remove(0, C), remove(0, B), remove(0, D)), ([A, E], [E, A]))
        self.assertEqual(self.seen(remove(0, A), remove(0, B)), ([C, D, E], [E, D, C]))
        self.assertEqual(self.seen(remove(0, E), remove(0, D), remove(0, C)), ([A, B], [B, A]))
        self.assertEqual(self.seen(*[remove(0, key) for key in [A, B, C, D, E]]), ([], []))

    def test_itself_that_was_removed(self):
        calls = [filled(A, B, C), begin(0), remove(0, B)]
        for itself in [0, 1]:
            self.assertEqual(told(calls, next_key(0, itself, B), before(0, itself, B)), [tells(C), tells(A)])

    def test_removed_and_then_put(self):
        calls = [filled(A, B, C), begin(0), remove(0, B), put(0, B, [7])]
        answer = key_found(B, [7])
        self.assertEqual(told(calls, next_key(0, 0, A), before(0, 0, C), next_key(0, 1, B)), [answer] * 3)

    def test_removed_and_then_added_to(self):
        calls = [filled(A), replay(rows.add_record(B, 50)), begin(0), remove(0, B), add(0, 3, B)]
        answer = key_found(B, count_bytes(3))
        self.assertEqual(told(calls, next_key(0, 0, A), before(0, 0, C), before(0, 1, B)), [answer] * 3)

    def test_put_or_added_to_and_then_removed(self):
        for change in [put(0, B, [7]), add(0, 3, B)]:
            for start in [[A, B, C], [A, C]]:
                calls = [filled(*start), begin(0), change, remove(0, B)]
                self.assertEqual(told(calls, next_key(0, 0, A), before(0, 0, C)), [tells(C), tells(A)])

    def test_removed_where_it_was_not(self):
        calls = [filled(A, C), begin(0), remove(0, B)]
        asked = [next_key(0, 0, A), before(0, 0, C), next_key(0, 1, B)]
        self.assertEqual(told(calls, *asked), [tells(C), tells(A), tells(C)])

    def test_removed_and_brought_back_by_back(self):
        calls = [filled(A, B, C), begin(0), rows.save(0), remove(0, B), rows.back(0, 1)]
        self.assertEqual(told(calls, next_key(0, 0, A), before(0, 0, C)), [tells(B), tells(B)])


class WithItsOwnKeys(unittest.TestCase):
    def test_only_the_transaction_has_it(self):
        for change, value in [(put(0, B, [7]), [7]), (put(0, B, []), []), (add(0, -2, B), count_bytes(-2)),
                              (add(0, 0, B), count_bytes(0))]:
            calls = [filled(A, C), begin(0), change]
            answer = key_found(B, value)
            with self.subTest(change=change):
                asked = [next_key(0, 0, A), next_key(0, 1, B), before(0, 0, C), before(0, 1, B)]
                self.assertEqual(told(calls, *asked), [answer] * 4)
                asked = [next_key(0, 0, B), before(0, 0, B), next_key(0, 1, A), before(0, 1, C)]
                self.assertEqual(told(calls, *asked), [tells(C), tells(A), tells(A), tells(C)])

    def test_in_an_empty_state(self):
        calls = [begin(0), put(0, B, [7]), add(0, 3, D)]
        of_b, of_d = key_found(B, [7]), key_found(D, count_bytes(3))
        asked = [next_key(0, 0, NONE), next_key(0, 0, B), next_key(0, 0, D), before(0, 0, E), before(0, 0, D),
                 before(0, 0, B)]
        self.assertEqual(told(calls, *asked), [of_b, of_d, ABSENT, of_d, of_b, ABSENT])

    def test_the_nearer_of_the_two(self):
        calls = [filled(B, D), begin(0), put(0, A, [7]), put(0, C, [7]), put(0, E, [7])]
        own = {key: key_found([key], [7]) for key in (65, 67, 69)}
        asked = [next_key(0, 0, key) for key in (NONE, A, B, C, D, E)]
        self.assertEqual(told(calls, *asked), [own[65], tells(B), own[67], tells(D), own[69], ABSENT])
        asked = [before(0, 0, key) for key in ([255], E, D, C, B, A)]
        self.assertEqual(told(calls, *asked), [own[69], tells(D), own[67], tells(B), own[65], ABSENT])

    def test_the_nearest_of_several_of_its_own(self):
        calls = [begin(0), put(0, C, [3]), put(0, A, [1]), put(0, D, [4]), put(0, B, [2])]
        asked = [next_key(0, 0, A), next_key(0, 0, NONE), before(0, 0, D), before(0, 0, E)]
        wanted = [key_found(B, [2]), key_found(A, [1]), key_found(C, [3]), key_found(D, [4])]
        self.assertEqual(told(calls, *asked), wanted)

    def test_removed_ones_of_its_own_are_gone_by(self):
        calls = [begin(0)]
        calls += [put(0, key, [1]) for key in (A, B, C, D)] + [remove(0, key) for key in (B, C)]
        self.assertEqual(told(calls, next_key(0, 0, A), before(0, 0, D)), [key_found(D, [1]), key_found(A, [1])])

    def test_an_own_key_between_removed_ones(self):
        calls = [filled(A, B, D, E), begin(0), remove(0, B), remove(0, D), put(0, C, [7])]
        self.assertEqual(told(calls, next_key(0, 0, A), before(0, 0, E)), [key_found(C, [7])] * 2)

    def test_beginnings_of_keys(self):
        calls = [filled(A, A + [0, 0]), begin(0), put(0, A + [0], [7])]
        answer = key_found(A + [0], [7])
        self.assertEqual(told(calls, next_key(0, 0, A), before(0, 0, A + [0, 0])), [answer] * 2)

    def test_the_two_being_one(self):
        state = replay(rows.put_record(A, count_bytes(40)) + rows.put_record(B, [5]))
        for change, value in [(put(0, A, [7]), [7]), (add(0, 2, A), count_bytes(42)), (put(0, A, []), [])]:
            calls = [state, begin(0), change]
            with self.subTest(change=change):
                answer = key_found(A, value)
                self.assertEqual(told(calls, next_key(0, 0, NONE), next_key(0, 1, A), before(0, 0, B)), [answer] * 3)
        self.assertEqual(told([state, begin(0), add(0, 2, B)], next_key(0, 0, A)), [key_found(B, [5])])

    def test_the_value_has_all_its_changes(self):
        state = replay(rows.put_record(A, count_bytes(40)))
        calls = [state, begin(0), add(0, 2, A), add(0, 2**63 - 1, A), add(0, 1, A)]
        self.assertEqual(told(calls, next_key(0, 0, NONE)), [key_found(A, count_bytes(42 + 2**63))])
        calls += [put(0, A, count_bytes(-9)), add(0, 4, A)]
        self.assertEqual(told(calls, next_key(0, 0, NONE)), [key_found(A, count_bytes(-5))])
        calls += [remove(0, A), add(0, 4, A), add(0, 4, A)]
        self.assertEqual(told(calls, next_key(0, 0, NONE)), [key_found(A, count_bytes(8))])
        calls += [put(0, A, [1]), add(0, 4, A)]
        self.assertEqual(told(calls, next_key(0, 0, NONE)), [key_found(A, [1])])

    def test_changes_of_others_are_not_seen(self):
        calls = [begin(0), begin(1), put(1, A, [1])]
        self.assertEqual(told(calls, next_key(0, 0, NONE), before(0, 1, A)), [ABSENT, ABSENT])
        self.assertEqual(told(calls, commit(1), next_key(0, 0, NONE)), [changed(1), ABSENT])

    def test_after_back_they_are_gone(self):
        calls = [filled(A), begin(0), rows.save(0), put(0, B, [7]), add(0, 1, C), rows.back(0, 1)]
        self.assertEqual(told(calls, next_key(0, 0, A), before(0, 0, E)), [ABSENT, tells(A)])


class Looks(unittest.TestCase):
    def looks(self, *calls):
        return rows.looks_of(0, [filled(B, D), begin(0), *calls])

    def test_each_is_one(self):
        for step in [next_key, before]:
            for key in [A, B, C, D, E, NONE]:
                for itself in [0, 1]:
                    with self.subTest(step=step.__name__, key=key, itself=itself):
                        self.assertEqual(self.looks(step(0, itself, key)), 1)

    def test_other_stretches_are_looks_more(self):
        self.assertEqual(self.looks(next_key(0, 0, NONE), next_key(0, 0, A), next_key(0, 0, B), next_key(0, 0, D)), 4)
        self.assertEqual(self.looks(next_key(0, 0, B), next_key(0, 1, B)), 2)
        self.assertEqual(self.looks(before(0, 0, A), before(0, 0, B), before(0, 0, D), before(0, 0, E)), 4)

    def test_the_same_stretch_is_looked_at_once(self):
        self.assertEqual(self.looks(*[next_key(0, 0, B)] * 5), 1)
        self.assertEqual(self.looks(*[next_key(0, 0, E)] * 5), 1)
        self.assertEqual(self.looks(*[before(0, 0, A)] * 5), 1)
        self.assertEqual(self.looks(next_key(0, 0, C), next_key(0, 1, C)), 1)

    def test_next_and_before_may_look_at_one_stretch(self):
        self.assertEqual(self.looks(next_key(0, 0, B), before(0, 0, D)), 1)
        self.assertEqual(self.looks(next_key(0, 1, B), before(0, 1, B)), 1)

    def test_a_stretch_to_another_end_is_another(self):
        self.assertEqual(self.looks(next_key(0, 0, B), put(0, C, []), next_key(0, 0, B)), 2)
        self.assertEqual(self.looks(next_key(0, 0, B), remove(0, D), next_key(0, 0, B)), 2)
        self.assertEqual(self.looks(next_key(0, 0, NONE), before(0, 0, NONE), next_key(0, 0, E), before(0, 0, A)), 4)

    def test_a_key_and_a_stretch_of_it_alone_are_two(self):
        self.assertEqual(self.looks(get(0, B), next_key(0, 1, B)), 2)

    def test_a_stretch_to_an_own_key_is_looked_at_too(self):
        self.assertEqual(self.looks(put(0, C, []), next_key(0, 1, C), before(0, 1, C), next_key(0, 0, B)), 2)

    def test_1000(self):
        looks = [get(0, key_number(number)) for number in range(999)]
        calls = [filled(B), begin(0)] + looks
        for step in [next_key(0, 0, A), next_key(0, 0, C), before(0, 0, C), before(0, 0, A), before(0, 0, NONE)]:
            refused = [next_key(0, 0, A), next_key(0, 1, NONE), before(0, 0, C), before(0, 1, NONE), get(0, A)]
            answers = told(calls, step, *refused, step)
            with self.subTest(step=step):
                self.assertNotEqual(answers[0], FULL)
                self.assertEqual(answers[1:], [FULL] * 6)

    def test_1000_looks_at_stretches(self):
        looks = [next_key(0, 0, key_number(number)) for number in range(1000)]
        calls = [filled(B), begin(0)] + looks
        answers = ask(*calls, next_key(0, 0, [0, 0]), get(0, A), put(0, A, B), get(0, A))
        self.assertEqual(answers[2:1002], [tells(B)] * 1000)
        self.assertEqual(answers[1002:], [FULL, FULL, DONE, rows.found(B)])

    def test_what_was_refused_is_not_looked_at(self):
        looks = [get(0, key_number(number)) for number in range(1000)]
        calls = [begin(0)] + looks + [next_key(0, 0, A), before(0, 0, C), filled(B), commit(0)]
        self.assertEqual(ask(*calls)[-4:], [FULL, FULL, changed(1), DONE])

    def test_a_wrong_key_goes_ahead_of_1000(self):
        looks = [get(0, key_number(number)) for number in range(1000)]
        self.assertEqual(told([begin(0)] + looks, next_key(0, 0, A * 65), before(0, 0, A * 65)), [WRONG, WRONG])


if __name__ == "__main__":
    unittest.main()
