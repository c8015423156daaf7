"""Points 1 to 4, 6 and 8: remove and add, beside put, in a transaction."""

import unittest

import rows
from rows import (
    A, ABSENT, B, CLASH, DONE, FULL, LEAST, MOST, WRONG, add, ask, begin, changed, commit, count_bytes, found, get,
    key_number, list_changes, put, remove, replay, seen,
)


def held(value):
    return replay(rows.put_record(A, value))


def counting(number):
    return held(count_bytes(number))


class Lengths(unittest.TestCase):
    def test_keys_of_remove_and_add(self):
        for length, answer in [(0, WRONG), (1, DONE), (64, DONE), (65, WRONG), (6000, WRONG)]:
            with self.subTest(length=length):
                key = [9] * length
                self.assertEqual(ask(begin(0), remove(0, key), add(0, 1, key))[1:], [answer, answer])

    def test_numbers_of_add(self):
        for number, answer in [(LEAST - 1, WRONG), (LEAST, DONE), (0, DONE), (MOST, DONE), (MOST + 1, WRONG)]:
            with self.subTest(number=number):
                self.assertEqual(ask(begin(0), add(0, number, A))[1], answer)

    def test_a_wrong_key_changes_nothing(self):
        for key in [[], [9] * 65]:
            with self.subTest(length=len(key)):
                calls = [begin(0), remove(0, key), add(0, 1, key), list_changes(0), commit(0)]
                self.assertEqual(ask(*calls)[1:], [WRONG, WRONG, rows.listed(), DONE])


class Remove(unittest.TestCase):
    def test_one_that_is_there(self):
        calls = [held([1]), begin(0), remove(0, A), get(0, A), commit(0)]
        self.assertEqual(ask(*calls)[2:], [DONE, ABSENT, changed(1)])
        self.assertEqual(seen(calls, A), [ABSENT])

    def test_one_that_is_not_there(self):
        calls = [held([1]), begin(0), remove(0, B), get(0, B), commit(0)]
        self.assertEqual(ask(*calls)[2:], [DONE, ABSENT, changed(1)])
        self.assertEqual(seen(calls, A, B), [found([1]), ABSENT])

    def test_others_stay(self):
        keys = [A + [0], [64, 255], B]
        calls = [rows.filled(A, *keys), begin(0), remove(0, A), commit(0)]
        self.assertEqual(seen(calls, A, *keys), [ABSENT] + [found(key) for key in keys])

    def test_one_that_was_put(self):
        calls = [begin(0), put(0, A, [1]), remove(0, A), get(0, A), commit(0)]
        self.assertEqual(ask(*calls)[3:], [ABSENT, changed(2)])
        self.assertEqual(seen(calls, A), [ABSENT])

    def test_one_that_was_added_to(self):
        calls = [counting(4), begin(0), add(0, 1, A), remove(0, A), get(0, A), commit(0)]
        self.assertEqual(ask(*calls)[4:], [ABSENT, changed(2)])
        self.assertEqual(seen(calls, A), [ABSENT])

    def test_put_behind_it(self):
        calls = [held([1]), begin(0), remove(0, A), put(0, A, [2]), get(0, A), commit(0)]
        self.assertEqual(ask(*calls)[4:], [found([2]), changed(2)])
        self.assertEqual(seen(calls, A), [found([2])])

    def test_the_present_state_waits_for_commit(self):
        self.assertEqual(seen([held([1]), begin(0), remove(0, A)], A), [found([1])])

    def test_it_settles_the_key(self):
        calls = [held([1]), begin(0), remove(0, A), get(0, A)]
        self.assertEqual(rows.looks_of(0, calls), 0)
        self.assertEqual(ask(*calls, held([2]), commit(0))[-1], changed(1))

    def test_twice(self):
        calls = [held([1]), begin(0), remove(0, A), remove(0, A), get(0, A), commit(0)]
        self.assertEqual(ask(*calls)[2:], [DONE, DONE, ABSENT, changed(2)])


class Add(unittest.TestCase):
    def added(self, before, *numbers):
        """What get tells within the transaction, and what is there when it is committed."""
        calls = before + [begin(0)] + [add(0, number, A) for number in numbers] + [get(0, A), commit(0)]
        told = ask(*calls)
        self.assertEqual(told[-1], changed(len(numbers)))
        self.assertEqual(seen(calls, A), [told[-2]])
        return told[-2]

    def test_on_none(self):
        for number in [LEAST, LEAST + 1, -1, 0, 1, 255, 256, MOST]:
            with self.subTest(number=number):
                self.assertEqual(self.added([], number), found(count_bytes(number)))
        self.assertEqual(self.added([], 258), [8, 0, 2, 1, 0, 0, 0, 0, 0, 0])

    def test_on_a_count(self):
        for there in [LEAST, -1, 0, 1, MOST]:
            for number in [LEAST, -1, 0, 1, MOST]:
                with self.subTest(there=there, number=number):
                    self.assertEqual(self.added([counting(there)], number), found(count_bytes(there + number)))

    def test_on_another_value(self):
        for length in [0, 1, 7, 9, 300]:
            with self.subTest(length=length):
                self.assertEqual(self.added([held([3] * length)], 5), found([3] * length))
                self.assertEqual(self.added([held([3] * length)], 5, MOST, LEAST), found([3] * length))

    def test_more_than_once(self):
        for numbers in [(1, 2), (MOST, MOST), (LEAST, LEAST), (MOST, MOST, MOST, 7), (LEAST, MOST), (5, -5), (0, 0)]:
            with self.subTest(numbers=numbers):
                self.assertEqual(self.added([], *numbers), found(count_bytes(sum(numbers))))
                self.assertEqual(self.added([counting(9)], *numbers), found(count_bytes(9 + sum(numbers))))

    def test_on_one_that_was_put(self):
        for value, told in [([1], [1]), ([], []), (count_bytes(-3), count_bytes(2)), ([1] * 9, [1] * 9)]:
            for before in [[], [held([7])], [counting(40)]]:
                with self.subTest(value=value, before=before):
                    calls = before + [begin(0), put(0, A, value), add(0, 5, A), get(0, A), commit(0)]
                    self.assertEqual(ask(*calls)[-2:], [found(told), changed(2)])
                    self.assertEqual(seen(calls, A), [found(told)])

    def test_on_one_that_was_removed(self):
        for before in [[], [held([7])], [counting(40)]]:
            with self.subTest(before=before):
                calls = before + [begin(0), remove(0, A), add(0, 5, A), add(0, -6, A), get(0, A), commit(0)]
                self.assertEqual(ask(*calls)[-2:], [found(count_bytes(-1)), changed(3)])
                self.assertEqual(seen(calls, A), [found(count_bytes(-1))])

    def test_put_behind_it(self):
        calls = [counting(4), begin(0), add(0, 5, A), put(0, A, [1]), get(0, A), add(0, 5, A), get(0, A), commit(0)]
        self.assertEqual(ask(*calls)[-4:], [found([1]), DONE, found([1]), changed(3)])
        self.assertEqual(seen(calls, A), [found([1])])

    def test_other_keys_stay(self):
        calls = [rows.filled(A, B), begin(0), add(0, 5, A + [0]), get(0, A), get(0, B), commit(0)]
        self.assertEqual(ask(*calls)[3:], [found(A), found(B), changed(1)])
        self.assertEqual(seen(calls, A, A + [0], B), [found(A), found(count_bytes(5)), found(B)])

    def test_the_present_state_waits_for_commit(self):
        self.assertEqual(seen([begin(0), add(0, 5, A)], A), [ABSENT])

    def test_the_number_goes_ahead_of_the_key(self):
        self.assertEqual(ask(begin(0), [13, 0, 2, 1, 3], get(0, [3]))[-1], found(count_bytes(2)))

    def test_done_on_what_is_there_at_commit(self):
        calls = [counting(1), begin(0), add(0, 10, A), counting(100), commit(0)]
        self.assertEqual(ask(*calls)[-1], changed(1))
        self.assertEqual(seen(calls, A), [found(count_bytes(110))])
        calls = [counting(1), begin(0), add(0, 10, A), held([1]), commit(0)]
        self.assertEqual(seen(calls, A), [found([1])])
        calls = [held([1]), begin(0), add(0, 10, A), replay(rows.remove_record(A)), commit(0)]
        self.assertEqual(seen(calls, A), [found(count_bytes(10))])

    def test_two_that_add_both_commit(self):
        calls = [counting(1), begin(0), begin(1), add(0, 10, A), add(1, 100, A), commit(1), commit(0)]
        self.assertEqual(ask(*calls)[-2:], [changed(1), changed(1)])
        self.assertEqual(seen(calls, A), [found(count_bytes(111))])


class GetOfWhatWasAddedTo(unittest.TestCase):
    def test_only_added_to_is_looked_at(self):
        calls = [counting(1), begin(0), add(0, 10, A), get(0, A)]
        self.assertEqual(ask(*calls)[-1], found(count_bytes(11)))
        self.assertEqual(rows.looks_of(0, calls), 1)
        self.assertEqual(ask(*calls, counting(2), commit(0))[-1], CLASH)
        self.assertEqual(ask(*calls, counting(1), commit(0))[-1], changed(1))

    def test_only_added_to_where_there_is_none(self):
        calls = [begin(0), add(0, 10, A), get(0, A)]
        self.assertEqual(rows.looks_of(0, calls), 1)
        self.assertEqual(ask(*calls, counting(0), commit(0))[-1], CLASH)

    def test_only_added_to_is_refused_with_1000_looks(self):
        looks = [get(0, key_number(number)) for number in range(1000)]
        calls = [begin(0), add(0, 10, A)] + looks + [get(0, A), remove(0, A), add(0, 7, A), get(0, A)]
        self.assertEqual(ask(*calls)[-4:], [FULL, DONE, DONE, found(count_bytes(7))])

    def test_removed_and_then_added_to_is_settled(self):
        calls = [counting(1), begin(0), remove(0, A), add(0, 10, A), get(0, A)]
        self.assertEqual(ask(*calls)[-1], found(count_bytes(10)))
        self.assertEqual(rows.looks_of(0, calls), 0)
        self.assertEqual(ask(*calls, counting(2), commit(0))[-1], changed(2))

    def test_put_and_then_added_to_is_settled(self):
        calls = [counting(1), begin(0), put(0, A, count_bytes(4)), add(0, 10, A), get(0, A)]
        self.assertEqual(ask(*calls)[-1], found(count_bytes(14)))
        self.assertEqual(rows.looks_of(0, calls), 0)

    def test_added_to_and_then_put_or_removed_is_settled(self):
        for change in [put(0, A, [1]), remove(0, A)]:
            calls = [counting(1), begin(0), add(0, 10, A), change, get(0, A)]
            self.assertEqual(rows.looks_of(0, calls), 0)

    def test_a_change_of_another_key_settles_nothing(self):
        calls = [counting(1), begin(0), put(0, B, []), remove(0, A + [0]), add(0, 10, A), get(0, A)]
        self.assertEqual(rows.looks_of(0, calls), 1)


class RecordLength(unittest.TestCase):
    def room(self, left):
        """A transaction whose record has just so many bytes left (235 at most)."""
        # A put of a key of 1 byte has 5 bytes beside its value: 12 times 305, 100, and what is short of it.
        calls = [begin(0)] + [put(0, [number], [7] * 300) for number in range(12)]
        return calls + [put(0, [12], [7] * 95), put(0, [13], [7] * (235 - left))]

    def full(self, calls):
        """Asserts that the last of the calls is refused and changes nothing."""
        wanted = ask(*calls[:-1], list_changes(0), get(0, A), commit(0))[-3:]
        told = ask(*calls, list_changes(0), get(0, A), commit(0))[-4:]
        self.assertEqual(told, [FULL] + wanted)

    def test_the_room_that_is_left(self):
        for left in [0, 3, 11, 50]:
            told = ask(*self.room(left), list_changes(0))[-1]
            self.assertEqual(len(told) - 2, 4000 - left)

    def test_remove(self):
        for key in [A, A * 30]:
            length = 2 + len(key)
            self.assertEqual(ask(*self.room(length), remove(0, key))[-1], DONE)
            self.full(self.room(length - 1) + [remove(0, key)])
        told = ask(*self.room(3), remove(0, A), list_changes(0))[-1]
        self.assertEqual(len(told) - 2, 4000)

    def test_add(self):
        for key in [A, A * 30]:
            for number in [LEAST, 0, MOST]:
                length = 10 + len(key)
                self.assertEqual(ask(*self.room(length), add(0, number, key))[-1], DONE)
                self.full(self.room(length - 1) + [add(0, number, key)])
        told = ask(*self.room(11), add(0, 1, A), list_changes(0))[-1]
        self.assertEqual(len(told) - 2, 4000)

    def test_a_refused_change_takes_no_room(self):
        calls = self.room(3) + [add(0, 1, A), remove(0, A + A), remove(0, A), remove(0, A)]
        self.assertEqual(ask(*calls)[-4:], [FULL, FULL, DONE, FULL])

    def test_a_wrong_key_goes_ahead(self):
        calls = self.room(0) + [remove(0, []), add(0, 1, []), remove(0, A * 65), add(0, 1, A * 65), remove(0, A)]
        self.assertEqual(ask(*calls)[-5:], [WRONG] * 4 + [FULL])

    def test_changes_of_one_key_take_room_each(self):
        calls = [begin(0)] + [add(0, 1, A) for turn in range(364)] + [get(0, A), commit(0)]
        self.assertEqual(ask(*calls)[-4:], [DONE, FULL, found(count_bytes(363)), changed(363)])


if __name__ == "__main__":
    unittest.main()
