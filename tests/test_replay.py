"""Points 2 to 4 and 14: the three changes, their records, and replay."""

import unittest

import rows
from rows import (
    A, ABSENT, B, DONE, LEAST, MOST, WRONG, add_record, ask, begin, changed, commit, count_bytes, found, get, keep,
    older, put_record, remove_record, replay, seen,
)


class Replay(unittest.TestCase):
    def test_no_bytes(self):
        self.assertEqual(ask(replay([])), [DONE])

    def test_put(self):
        self.assertEqual(ask(replay(put_record(A, [1, 2]))), [changed(1)])
        self.assertEqual(seen([replay(put_record(A, [1, 2]))], A, B), [found([1, 2]), ABSENT])

    def test_bytes_of_put(self):
        self.assertEqual(seen([replay([1, 2, 65, 66, 3, 0, 7, 8, 9])], A + B), [found([7, 8, 9])])

    def test_put_over_another(self):
        calls = [replay(put_record(A, [1, 2])), replay(put_record(A, [3]))]
        self.assertEqual(seen(calls, A), [found([3])])

    def test_remove(self):
        calls = [replay(put_record(A, [1])), replay(put_record(B, [2])), replay(remove_record(A))]
        self.assertEqual(ask(*calls)[-1], changed(1))
        self.assertEqual(seen(calls, A, B), [ABSENT, found([2])])

    def test_remove_where_there_is_none(self):
        calls = [replay(put_record(B, [2])), replay(remove_record(A)), replay(remove_record(B + [0]))]
        self.assertEqual(ask(*calls)[1:], [changed(1), changed(1)])
        self.assertEqual(seen(calls, A, B), [ABSENT, found([2])])

    def test_bytes_of_remove_and_add(self):
        self.assertEqual(seen([replay([1, 1, 65, 0, 0]), replay([2, 1, 65])], A), [ABSENT])
        self.assertEqual(seen([replay([3, 1, 65, 1, 2, 3, 4, 5, 6, 7, 8])], A), [found([1, 2, 3, 4, 5, 6, 7, 8])])

    def test_several_are_done_one_after_another(self):
        record = put_record(A, [1]) + put_record(B, [2]) + remove_record(A) + add_record(A, 5) + add_record(A, 6)
        self.assertEqual(ask(replay(record)), [changed(5)])
        self.assertEqual(seen([replay(record)], A, B), [found(count_bytes(11)), found([2])])

    def test_the_order_matters(self):
        self.assertEqual(seen([replay(put_record(A, [1]) + remove_record(A))], A), [ABSENT])
        self.assertEqual(seen([replay(remove_record(A) + put_record(A, [1]))], A), [found([1])])

    def test_an_older_state_stays(self):
        calls = [replay(put_record(A, [1])), keep(0), replay(remove_record(A)), older(0, 0), get(0, A)]
        self.assertEqual(ask(*calls)[-1], found([1]))

    def test_6000_bytes(self):
        record = remove_record(A) * 2000
        self.assertEqual(len(record), 6000)
        self.assertEqual(ask(replay(record)), [changed(2000)])

    def test_many_keys_in_any_order(self):
        keys = [[number * 7919 % 1009 // 256, number * 7919 % 1009 % 256] for number in range(1, 600)]
        record = [number for key in keys for number in put_record(key, [key[1]])]
        gone = [number for key in keys[::2] for number in remove_record(key)]
        calls = [replay(record), replay(gone)]
        self.assertEqual(ask(*calls), [changed(599), changed(300)])
        told = [ABSENT if place % 2 == 0 else found([key[1]]) for place, key in enumerate(keys)]
        self.assertEqual(seen(calls, *keys), told)

    def test_a_key_next_to_its_beginnings(self):
        keys = [[1] * length for length in range(1, 65)]
        record = [number for key in reversed(keys) for number in put_record(key, [len(key)])]
        self.assertEqual(seen([replay(record)], *keys), [found([len(key)]) for key in keys])


class Add(unittest.TestCase):
    def after(self, before, number):
        return seen([replay(before), replay(add_record(A, number))], A)[0]

    def test_on_a_count(self):
        for count, number in [(0, 0), (1, 1), (255, 1), (5, -6), (-1, 1), (-1, -1), (256, -1), (MOST, LEAST)]:
            with self.subTest(count=count, number=number):
                before = put_record(A, count_bytes(count))
                self.assertEqual(self.after(before, number), found(count_bytes(count + number)))

    def test_beyond_the_greatest(self):
        before = put_record(A, count_bytes(MOST))
        self.assertEqual(self.after(before, 1), found([0, 0, 0, 0, 0, 0, 0, 128]))
        self.assertEqual(self.after(before, MOST), found([254] + [255] * 7))

    def test_below_the_least(self):
        before = put_record(A, count_bytes(LEAST))
        self.assertEqual(self.after(before, -1), found([255] * 7 + [127]))
        self.assertEqual(self.after(before, LEAST), found([0] * 8))

    def test_on_a_key_that_is_not_there(self):
        for number in [0, 1, -1, 258, MOST, LEAST]:
            with self.subTest(number=number):
                self.assertEqual(self.after([], number), found(count_bytes(number)))
        self.assertEqual(self.after([], 258), found([2, 1, 0, 0, 0, 0, 0, 0]))
        self.assertEqual(self.after([], -2), found([254] + [255] * 7))

    def test_on_a_key_that_was_removed(self):
        self.assertEqual(self.after(put_record(A, count_bytes(9)) + remove_record(A), 4), found(count_bytes(4)))

    def test_on_what_is_no_count(self):
        for length in [0, 1, 7, 9, 16, 300]:
            value = [3] * length
            with self.subTest(length=length):
                self.assertEqual(self.after(put_record(A, value), 5), found(value))

    def test_it_counts_as_a_change_there_too(self):
        self.assertEqual(ask(replay(put_record(A, [1]) + add_record(A, 5))), [changed(2)])

    def test_other_keys_stay(self):
        calls = [replay(put_record(B, count_bytes(7))), replay(add_record(A, 5))]
        self.assertEqual(seen(calls, A, B), [found(count_bytes(5)), found(count_bytes(7))])


class NoRecord(unittest.TestCase):
    def refused(self, record):
        """Asserts that the bytes are no record and that nothing changes by them."""
        calls = [replay(put_record(A, [1])), begin(0), get(0, A), get(0, B), get(0, [9])]
        told = ask(*calls, replay(record), commit(0), *rows.present(A, B, [9]))
        self.assertEqual(told[5], WRONG, record)
        self.assertEqual(told[6], DONE, record)
        self.assertEqual(told[8:], [found([1]), ABSENT, ABSENT], record)

    def accepted(self, record, how_many=1):
        self.assertEqual(ask(replay(record)), [changed(how_many)], record)

    def test_cut_short(self):
        for record in [put_record(B, [1, 2, 3]), put_record(B * 3, []), remove_record(A), add_record(B, 77)]:
            for length in range(1, len(record)):
                self.refused(record[:length])

    def test_a_good_change_ahead_of_a_cut_one(self):
        for tail in [put_record([9], [1, 2, 3]), remove_record(A), add_record([9], 77)]:
            for length in range(1, len(tail)):
                self.refused(put_record(B, [2]) + tail[:length])

    def test_a_good_change_behind_a_wrong_one(self):
        self.refused([4] + put_record(B, [2]))
        self.refused([1, 0, 0, 0] + put_record(B, [2]))

    def test_wrong_first_byte(self):
        for first in [0, 4, 5, 128, 255]:
            for record in [put_record(B, [2]), remove_record(A), add_record(B, 1)]:
                self.refused([first] + record[1:])
                self.refused(put_record(B, [2]) + [first] + record[1:])

    def test_a_byte_too_many(self):
        for record in [put_record(B, [2]), remove_record(A), add_record(B, 1)]:
            for byte in [0, 1, 2, 3, 255]:
                self.refused(record + [byte])

    def test_lengths_of_keys(self):
        for length in [0, 65, 66, 128, 255]:
            key = [66] * length
            for record in [put_record(key, [2]), remove_record(key), add_record(key, 1)]:
                self.refused(record)
                self.refused(put_record(B, [2]) + record)
        for length in [1, 2, 63, 64]:
            key = [66] * length
            for record in [put_record(key, [2]), remove_record(key), add_record(key, 1)]:
                self.accepted(record)

    def test_lengths_of_values(self):
        for length in [301, 302, 512, 5000]:
            self.refused(put_record(B, [2] * length))
            self.refused(put_record([9], [2]) + put_record(B, [2] * length))
        for length in [0, 1, 255, 256, 257, 299, 300]:
            self.accepted(put_record(B, [2] * length))
            self.assertEqual(seen([replay(put_record(B, [2] * length))], B), [found([2] * length)])

    def test_a_length_with_its_highest_byte_first(self):
        self.refused([1, 1, 66, 0, 1, 5])
        self.refused([1, 1, 66, 0, 2] + [5] * 2)

    def test_the_longest_length_told(self):
        self.refused([1, 1, 66, 255, 255] + [5] * 300)


if __name__ == "__main__":
    unittest.main()
