"""Points 1 and 6 to 8: keys, values, get, put, the looks and the record's length."""

import unittest

import rows
from rows import A, ABSENT, B, DONE, FULL, WRONG, ask, begin, commit, found, get, key_number, put, replay, seen


class KeysAndValues(unittest.TestCase):
    def test_lengths_of_keys(self):
        for length, answer in [(0, WRONG), (1, DONE), (64, DONE), (65, WRONG), (6000, WRONG)]:
            with self.subTest(length=length):
                self.assertEqual(ask(begin(0), put(0, [9] * length, A))[1], answer)

    def test_lengths_of_keys_of_get(self):
        for length, answer in [(0, WRONG), (1, ABSENT), (64, ABSENT), (65, WRONG), (6000, WRONG)]:
            with self.subTest(length=length):
                self.assertEqual(ask(begin(0), get(0, [9] * length))[1], answer)

    def test_lengths_of_values(self):
        for length in [0, 1, 255, 256, 299, 300]:
            with self.subTest(length=length):
                value = [7] * length
                self.assertEqual(ask(begin(0), put(0, A, value), get(0, A))[1:], [DONE, found(value)])
        for length in [301, 6000]:
            with self.subTest(length=length):
                self.assertEqual(ask(begin(0), put(0, A, [7] * length), get(0, A))[1:], [WRONG, ABSENT])

    def test_bytes_of_every_size(self):
        value = list(range(256))
        for key in [[0], [255], [0, 0], [0, 255, 0]]:
            with self.subTest(key=key):
                self.assertEqual(seen([begin(0), put(0, key, value), commit(0)], key), [found(value)])

    def test_keys_that_begin_alike_are_not_one(self):
        keys = [[1], [1, 0], [0, 1], [1, 1], [0], [0] * 64]
        calls = [begin(0)] + [put(0, key, [place]) for place, key in enumerate(keys)] + [commit(0)]
        self.assertEqual(seen(calls, *keys), [found([place]) for place in range(len(keys))])


class Get(unittest.TestCase):
    def test_none(self):
        self.assertEqual(ask(begin(0), get(0, A))[1], ABSENT)

    def test_value_of_the_state(self):
        calls = [replay(rows.put_record(A, [1, 2, 3])), begin(0), get(0, A), get(0, B)]
        self.assertEqual(ask(*calls)[2:], [found([1, 2, 3]), ABSENT])

    def test_empty_value_is_not_none(self):
        calls = [replay(rows.put_record(A, [])), begin(0), get(0, A)]
        self.assertEqual(ask(*calls)[2], [0, 0])

    def test_own_put_is_seen(self):
        calls = [replay(rows.put_record(A, [1])), begin(0), put(0, A, [2]), get(0, A), put(0, A, [3, 4]), get(0, A)]
        self.assertEqual(ask(*calls)[2:], [DONE, found([2]), DONE, found([3, 4])])

    def test_own_put_of_another_key_is_not(self):
        calls = [replay(rows.put_record(A, [1])), begin(0), put(0, B, [2]), get(0, A)]
        self.assertEqual(ask(*calls)[3], found([1]))

    def test_changes_of_others_are_not_seen(self):
        calls = [begin(0), begin(1), put(0, A, [1]), get(1, A), commit(0), get(1, A), begin(2), get(2, A)]
        self.assertEqual(ask(*calls)[3:], [ABSENT, rows.changed(1), ABSENT, DONE, found([1])])

    def test_replay_is_not_seen_by_one_that_has_begun(self):
        calls = [replay(rows.put_record(A, [1])), begin(0), replay(rows.remove_record(A)), get(0, A)]
        self.assertEqual(ask(*calls)[3], found([1]))

    def test_wrong_key_is_not_looked_at(self):
        calls = [begin(0), get(0, []), get(0, [1] * 65), replay(rows.put_record([1] * 64, A)), commit(0)]
        self.assertEqual(ask(*calls)[-1], DONE)


class Put(unittest.TestCase):
    def test_wrong_put_changes_nothing(self):
        for key, value in [([], B), ([1] * 65, B), (A, [1] * 301), ([], [1] * 301)]:
            with self.subTest(key=len(key), value=len(value)):
                self.assertEqual(ask(begin(0), put(0, key, value), commit(0))[1:], [WRONG, DONE])

    def test_the_present_state_waits_for_commit(self):
        self.assertEqual(seen([begin(0), put(0, A, B)], A), [ABSENT])
        self.assertEqual(seen([begin(0), put(0, A, B), commit(0)], A), [found(B)])

    def test_every_put_is_a_change(self):
        self.assertEqual(ask(begin(0), put(0, A, B), put(0, A, B), put(0, A, A), commit(0))[-1], [3, 0])


class RecordLength(unittest.TestCase):
    # A put of a key of 1 byte has 5 bytes beside its value: 13 times 305, then 35 left.
    def filled(self):
        return [begin(0)] + [put(0, [number], [number] * 300) for number in range(13)]

    def test_just_4000(self):
        calls = self.filled() + [put(0, [200], [1] * 30), get(0, [200]), commit(0)]
        self.assertEqual(ask(*calls)[-3:], [DONE, found([1] * 30), [14, 0]])

    def test_4001(self):
        calls = self.filled() + [put(0, [200], [1] * 31), get(0, [200]), commit(0)]
        self.assertEqual(ask(*calls)[-3:], [FULL, ABSENT, [13, 0]])

    def test_4001_by_the_key(self):
        self.assertEqual(ask(*self.filled(), put(0, [200] * 31, []))[-1], DONE)
        self.assertEqual(ask(*self.filled(), put(0, [200] * 32, []))[-1], FULL)
        self.assertEqual(ask(*self.filled(), put(0, [200] * 30, [1]))[-1], DONE)
        self.assertEqual(ask(*self.filled(), put(0, [200] * 31, [1]))[-1], FULL)

    def test_a_refused_put_takes_no_room(self):
        calls = self.filled() + [put(0, [200], [1] * 31), put(0, [200], [1] * 30), put(0, [201], [])]
        self.assertEqual(ask(*calls)[-3:], [FULL, DONE, FULL])

    def test_full_changes_no_value(self):
        calls = self.filled() + [put(0, [3], [9] * 300), get(0, [3]), commit(0)]
        self.assertEqual(ask(*calls)[-3:], [FULL, found([3] * 300), [13, 0]])

    def test_wrong_goes_ahead_of_full(self):
        calls = self.filled() + [put(0, [], [1] * 300), put(0, A, [1] * 301)]
        self.assertEqual(ask(*calls)[-2:], [WRONG, WRONG])

    def test_the_same_key_takes_room_again(self):
        calls = [begin(0)] + [put(0, A, []) for turn in range(801)] + [commit(0)]
        told = ask(*calls)
        self.assertEqual(told[1:801], [DONE] * 800)
        self.assertEqual(told[801:], [FULL, [800, 0]])

    def test_a_transaction_that_begins_anew_has_all_the_room(self):
        calls = self.filled() + [begin(0), put(0, A, [1] * 300), commit(0)]
        self.assertEqual(ask(*calls)[-2:], [DONE, [1, 0]])

    def test_each_transaction_has_its_own(self):
        calls = self.filled() + [begin(1), put(1, A, [1] * 300)]
        self.assertEqual(ask(*calls)[-1], DONE)


class Looks(unittest.TestCase):
    def looked(self, how_many):
        return [begin(0)] + [get(0, key_number(number)) for number in range(how_many)]

    def test_1000_looks_are_answered(self):
        self.assertEqual(ask(*self.looked(1000))[1:], [ABSENT] * 1000)

    def test_one_more_is_refused(self):
        self.assertEqual(ask(*self.looked(1001))[1000:], [ABSENT, FULL])

    def test_999_leave_one(self):
        calls = self.looked(999) + [get(0, A), get(0, B)]
        self.assertEqual(ask(*calls)[-2:], [ABSENT, FULL])

    def test_one_that_was_looked_at_is_refused_too(self):
        calls = [replay(rows.put_record([0, 5], A))] + self.looked(1000) + [get(0, [0, 5])]
        told = ask(*calls)
        self.assertEqual(told[7], found(A))
        self.assertEqual(told[-1], FULL)

    def test_a_settled_one_is_still_answered(self):
        calls = self.looked(1000) + [put(0, A, B), get(0, A), get(0, B), put(0, [0, 5], A), get(0, [0, 5])]
        self.assertEqual(ask(*calls)[-5:], [DONE, found(B), FULL, DONE, found(A)])

    def test_a_wrong_key_goes_ahead_of_full(self):
        calls = self.looked(1000) + [get(0, []), get(0, A * 65)]
        self.assertEqual(ask(*calls)[-2:], [WRONG, WRONG])

    def test_a_key_is_looked_at_once(self):
        calls = self.looked(999) + [get(0, [0, 0])] * 100 + [get(0, A), get(0, B)]
        self.assertEqual(ask(*calls)[-3:], [ABSENT, ABSENT, FULL])

    def test_keys_found_are_looks_too(self):
        calls = [replay(rows.put_record(A, B))] + self.looked(999) + [get(0, A), get(0, A)]
        self.assertEqual(ask(*calls)[-2:], [found(B), FULL])

    def test_a_settled_key_is_not_looked_at(self):
        calls = self.looked(999) + [put(0, A, B), get(0, A), get(0, A), get(0, B), get(0, [67])]
        self.assertEqual(ask(*calls)[-4:], [found(B), found(B), ABSENT, FULL])

    def test_a_wrong_key_is_no_look(self):
        calls = self.looked(999) + [get(0, []), get(0, A)]
        self.assertEqual(ask(*calls)[-2:], [WRONG, ABSENT])

    def test_what_was_refused_is_not_looked_at(self):
        calls = self.looked(1001) + [replay(rows.put_record(key_number(1000), A)), commit(0)]
        self.assertEqual(ask(*calls)[-3:], [FULL, rows.changed(1), DONE])

    def test_the_last_look_counts_at_commit(self):
        calls = self.looked(1000) + [replay(rows.put_record(key_number(999), A)), commit(0)]
        self.assertEqual(ask(*calls)[-1], rows.CLASH)

    def test_a_transaction_that_begins_anew_has_no_looks(self):
        calls = self.looked(1000) + [begin(0), get(0, A), get(0, B)]
        self.assertEqual(ask(*calls)[-2:], [ABSENT, ABSENT])

    def test_each_transaction_has_its_own(self):
        calls = self.looked(1000) + [begin(1), get(1, A), get(0, A)]
        self.assertEqual(ask(*calls)[-2:], [ABSENT, FULL])


if __name__ == "__main__":
    unittest.main()
