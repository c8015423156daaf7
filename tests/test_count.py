"""Point 10: count, and the looks that it leaves behind."""

import unittest

import rows
from rows import (
    A, ABSENT, B, C, CLASH, D, DONE, E, FULL, LAST, NONE, WRONG, add, ask, begin, changed, commit, count, filled,
    get, key_number, next_key, put, remove, replay,
)


def many(how_many):
    """Replays of so many keys of 2 bytes, with empty values, of 900 keys each at most."""
    keys = [key_number(number) for number in range(how_many)]
    return [
        replay(rows.joined(rows.put_record(key, []) for key in keys[start:start + 900]))
        for start in range(0, how_many, 900)
    ]


def looked(how_many):
    return [get(0, [9] + key_number(number)) for number in range(how_many)]


class HowMany(unittest.TestCase):
    state = [filled(A, B, C, D), begin(0)]

    def counted(self, *calls):
        return ask(*self.state, *calls)[-1]

    def test_from_one_to_the_other(self):
        wanted = [
            (NONE, LAST, 4), (A, D, 4), (A, C, 3), (B, C, 2), (B, B, 1), (B, D, 3), (D, LAST, 1), (E, LAST, 0),
            (NONE, [64], 0), (NONE, A, 1), (A + [0], D, 3), (A, D + [0], 4), (A + [0], B + [0], 1),
            (A + [0], A + [1], 0), (NONE, [0], 0),
        ]
        for one, another, how_many in wanted:
            with self.subTest(one=one, another=another):
                self.assertEqual(self.counted(count(0, 1000, one, another)), [how_many, 0])

    def test_the_other_is_below(self):
        for one, another in [(B, A), (D, A), (LAST, A), (E, D), (A + [0], A)]:
            with self.subTest(one=one, another=another):
                self.assertEqual(self.counted(count(0, 1000, one, another)), [0, 0])

    def test_most(self):
        for most in range(8):
            with self.subTest(most=most):
                self.assertEqual(self.counted(count(0, most, NONE, LAST)), [min(most, 4), 0])
                self.assertEqual(self.counted(count(0, most, A, C)), [min(most, 3), 0])

    def test_an_empty_state(self):
        self.assertEqual(ask(begin(0), count(0, 1000, NONE, LAST), count(0, 0, NONE, LAST))[1:], [[0, 0], [0, 0]])

    def test_its_own_changes_are_seen(self):
        self.assertEqual(self.counted(put(0, E, []), count(0, 9, NONE, LAST)), [5, 0])
        self.assertEqual(self.counted(add(0, 0, E), add(0, 0, [1]), count(0, 9, NONE, LAST)), [6, 0])
        self.assertEqual(self.counted(remove(0, B), remove(0, C), count(0, 9, NONE, LAST)), [2, 0])
        self.assertEqual(self.counted(remove(0, A), count(0, 9, A, D)), [3, 0])
        self.assertEqual(self.counted(remove(0, B), add(0, 1, B), put(0, C, A), count(0, 9, NONE, LAST)), [4, 0])

    def test_keys_that_are_beginnings_of_others(self):
        calls = [filled(A, A + [0], A + [0, 0], A + [1], B), begin(0)]
        self.assertEqual(ask(*calls, count(0, 9, A, A + [1]), count(0, 9, A + [0], A + [255]))[2:], [[4, 0], [3, 0]])

    def test_1000(self):
        for how_many in [999, 1000, 1001]:
            with self.subTest(how_many=how_many):
                told = ask(*many(how_many), begin(0), count(0, 1000, NONE, LAST))[-1]
                self.assertEqual(told, [min(how_many, 1000), 0])

    def test_the_numbers_and_rows_are_in_order(self):
        self.assertEqual(ask(*self.state, [16, 0, 9, 1, 66, 1, 68])[-1], [3, 0])
        self.assertEqual(ask(*self.state, [16, 0, 2, 1, 66, 1, 68])[-1], [2, 0])


class Refused(unittest.TestCase):
    def test_most(self):
        for most, answer in [(-2147483648, WRONG), (-1, WRONG), (0, DONE), (1, [1, 0]), (1000, [1, 0]), (1001, WRONG),
                             (2147483647, WRONG)]:
            with self.subTest(most=most):
                self.assertEqual(ask(filled(A), begin(0), count(0, most, NONE, LAST))[-1], answer)

    def test_lengths_of_keys(self):
        for length, first, other in [(0, DONE, WRONG), (1, DONE, DONE), (64, DONE, DONE), (65, WRONG, WRONG),
                                     (6000, WRONG, WRONG)]:
            key = [9] * length
            with self.subTest(length=length):
                self.assertEqual(ask(begin(0), count(0, 5, key, LAST))[-1], first)
                self.assertEqual(ask(begin(0), count(0, 5, A, key))[-1], other)
                self.assertEqual(ask(begin(0), count(0, 0, A, key))[-1], other)

    def test_with_the_looks_above_1000(self):
        for looks in [1, 500, 999, 1000]:
            calls = [begin(0)] + looked(looks)
            with self.subTest(looks=looks):
                self.assertEqual(ask(*calls, count(0, 1000 - looks, NONE, LAST))[-1], DONE)
                self.assertEqual(ask(*calls, count(0, 1001 - looks, NONE, LAST))[-1], FULL)

    def test_whatever_it_would_have_found(self):
        calls = [filled(A), begin(0), next_key(0, 1, NONE)]
        self.assertEqual(ask(*calls, count(0, 1000, NONE, A), count(0, 999, NONE, A))[-2:], [FULL, [1, 0]])
        self.assertEqual(ask(*calls, count(0, 1000, B, A), count(0, 1000, NONE, [1]))[-2:], [FULL, FULL])

    def test_no_looks_more_are_never_above(self):
        self.assertEqual(ask(begin(0), *looked(1000), count(0, 0, NONE, LAST))[-1], DONE)

    def test_refused_it_looks_at_nothing(self):
        calls = [begin(0), *looked(5), count(0, 996, NONE, LAST), count(0, -1, NONE, LAST), count(0, 9, NONE, NONE)]
        self.assertEqual(ask(*calls)[-3:], [FULL, WRONG, WRONG])
        self.assertEqual(rows.looks_of(0, calls), 5)
        self.assertEqual(ask(*calls, filled(A), commit(0))[-1], DONE)

    def test_wrong_goes_ahead_of_full(self):
        calls = [begin(0), *looked(1000), count(0, 1001, NONE, LAST), count(0, 1, NONE, NONE), count(0, 1, [1] * 65, A),
                 count(0, 1, NONE, A)]
        self.assertEqual(ask(*calls)[-4:], [WRONG, WRONG, WRONG, FULL])


class LooksLeftBehind(unittest.TestCase):
    state = [filled(A, B, C, D), begin(0)]

    def looks(self, *calls):
        return rows.looks_of(0, [*self.state, *calls])

    def test_ended_by_most(self):
        for most in range(5):
            with self.subTest(most=most):
                self.assertEqual(self.looks(count(0, most, NONE, LAST)), most)
                self.assertEqual(self.looks(count(0, min(most, 2), B, C)), min(most, 2))

    def test_ended_by_a_key_above_the_other(self):
        self.assertEqual(self.looks(count(0, 1000, A, C)), 4)
        self.assertEqual(self.looks(count(0, 4, A, C)), 4)
        self.assertEqual(self.looks(count(0, 1000, A, A)), 2)
        self.assertEqual(self.looks(count(0, 1000, NONE, [1])), 1)
        self.assertEqual(self.looks(count(0, 1000, C, A)), 1)

    def test_ended_by_none(self):
        self.assertEqual(self.looks(count(0, 1000, NONE, LAST)), 5)
        self.assertEqual(self.looks(count(0, 5, NONE, D)), 5)
        self.assertEqual(self.looks(count(0, 1000, E, LAST)), 1)

    def test_the_same_stretches_are_looked_at_once(self):
        self.assertEqual(self.looks(count(0, 9, A, C), count(0, 9, A, C), count(0, 2, A, C)), 4)
        self.assertEqual(self.looks(next_key(0, 0, A), next_key(0, 0, B), count(0, 9, B, C)), 4)
        self.assertEqual(self.looks(next_key(0, 1, A), next_key(0, 0, A), next_key(0, 0, B), count(0, 9, A, B)), 3)

    def test_most_is_counted_in_full_even_where_stretches_are_the_same(self):
        calls = many(500) + [begin(0), count(0, 501, NONE, LAST), count(0, 499, NONE, LAST), count(0, 500, NONE, LAST)]
        self.assertEqual(ask(*calls)[-3:], [[500, 0], [499, 0], FULL])

    def test_1000_at_most(self):
        calls = many(1001) + [begin(0), count(0, 1000, NONE, LAST)]
        self.assertEqual(rows.looks_of(0, calls), 1000)
        self.assertEqual(ask(*calls, next_key(0, 0, A), get(0, A), count(0, 1, NONE, A))[-3:], [FULL] * 3)

    def test_with_its_own_changes(self):
        self.assertEqual(self.looks(remove(0, B), remove(0, C), count(0, 9, NONE, LAST)), 3)
        self.assertEqual(self.looks(put(0, E, []), count(0, 9, NONE, LAST)), 6)


class Clashes(unittest.TestCase):
    def committed(self, counting, *between):
        return ask(filled(A, B, C, D), begin(0), counting, *between, commit(0))[-1]

    def test_a_key_came_or_went(self):
        gone, added = replay(rows.remove_record(B)), replay(rows.add_record(C + [0], 1))
        for change in [filled(A + [0]), filled([1]), gone, added]:
            with self.subTest(change=change):
                self.assertEqual(self.committed(count(0, 9, NONE, C), change), CLASH)

    def test_a_value_is_another(self):
        self.assertEqual(self.committed(count(0, 9, NONE, C), replay(rows.put_record(B, []))), CLASH)

    def test_up_to_the_key_that_ended_it(self):
        self.assertEqual(self.committed(count(0, 9, A, B), filled(B + [0])), CLASH)
        self.assertEqual(self.committed(count(0, 9, A, B), replay(rows.remove_record(C))), CLASH)
        self.assertEqual(self.committed(count(0, 9, A, B), filled(C + [0])), changed(0))
        self.assertEqual(self.committed(count(0, 2, A, B), filled(B + [0])), changed(0))
        self.assertEqual(self.committed(count(0, 9, C, D), filled(LAST)), CLASH)

    def test_ahead_of_the_first_is_not_looked_at(self):
        self.assertEqual(self.committed(count(0, 9, B, C), replay(rows.remove_record(A))), changed(0))

    def test_most_0_looks_at_nothing(self):
        self.assertEqual(self.committed(count(0, 0, NONE, LAST), replay(rows.remove_record(A))), changed(0))

    def test_nothing_changed(self):
        self.assertEqual(self.committed(count(0, 9, NONE, LAST), replay([])), changed(0))

    def test_it_changes_nothing(self):
        calls = [filled(A), begin(0), count(0, 9, NONE, LAST), rows.list_changes(0), get(0, B)]
        self.assertEqual(ask(*calls)[-2:], [rows.listed(), ABSENT])


if __name__ == "__main__":
    unittest.main()
