"""Point 11: save, back and list."""

import unittest

import rows
from rows import (
    A, ABSENT, B, C, CLASH, DONE, FULL, HIGHEST, LEAST, LOWEST, MOST, add, ask, back, begin, changed, commit,
    count_bytes, filled, found, get, list_changes, listed, next_key, put, remove, replay, save, seen,
)


def number(told):
    return [told, 0]


class Save(unittest.TestCase):
    def test_numbers_from_1_on(self):
        self.assertEqual(ask(begin(0), *[save(0)] * 8)[1:], [number(told) for told in range(1, 9)])

    def test_the_ninth(self):
        self.assertEqual(ask(begin(0), *[save(0)] * 10)[-2:], [FULL, FULL])

    def test_the_ninth_changes_nothing(self):
        calls = [begin(0), put(0, A, [1])] + [save(0)] * 8 + [put(0, A, [2]), save(0), put(0, A, [3]), get(0, A)]
        self.assertEqual(ask(*calls)[-3:], [FULL, DONE, found([3])])
        self.assertEqual(ask(*calls, back(0, 9), get(0, A), back(0, 8), get(0, A))[-4:],
                         [ABSENT, found([3]), DONE, found([1])])

    def test_each_transaction_has_its_own(self):
        calls = [begin(0), begin(1), save(0), save(0), save(1), back(1, 2), back(0, 2)]
        self.assertEqual(ask(*calls)[2:], [number(1), number(2), number(1), ABSENT, DONE])

    def test_one_that_begins_anew_has_none(self):
        self.assertEqual(ask(begin(0), save(0), begin(0), back(0, 1), save(0))[-2:], [ABSENT, number(1)])
        self.assertEqual(ask(rows.keep(0), begin(0), save(0), rows.older(0, 0), back(0, 1))[-1], ABSENT)

    def test_it_is_no_change_and_no_look(self):
        calls = [begin(0), save(0), save(0)]
        self.assertEqual(ask(*calls, list_changes(0), commit(0))[-2:], [listed(), changed(0)])
        self.assertEqual(rows.looks_of(0, calls), 0)


class Back(unittest.TestCase):
    def test_numbers_that_are_none(self):
        for told in [LOWEST, -1, 0, 3, 8, 9, HIGHEST]:
            calls = [begin(0), save(0), put(0, A, [1]), save(0), put(0, A, [2]), back(0, told), get(0, A), commit(0)]
            with self.subTest(told=told):
                self.assertEqual(ask(*calls)[-3:], [ABSENT, found([2]), changed(2)])

    def test_without_any(self):
        self.assertEqual(ask(begin(0), back(0, 1), back(0, 0))[1:], [ABSENT, ABSENT])

    def test_changes_behind_it_are_gone(self):
        calls = [begin(0), put(0, A, [1]), save(0), put(0, A, [2]), put(0, B, [3]), back(0, 1), get(0, A), get(0, B)]
        self.assertEqual(ask(*calls)[-3:], [DONE, found([1]), ABSENT])
        self.assertEqual(ask(*calls, list_changes(0))[-1], listed(rows.put_record(A, [1])))
        calls += [commit(0)]
        self.assertEqual(ask(*calls)[-1], changed(1))
        self.assertEqual(seen(calls, A, B), [found([1]), ABSENT])

    def test_to_the_beginning(self):
        calls = [filled(A), begin(0), save(0), remove(0, A), add(0, 1, B), back(0, 1), list_changes(0), get(0, A)]
        self.assertEqual(ask(*calls)[-3:], [DONE, listed(), found(A)])

    def test_where_nothing_is_behind_it(self):
        calls = [begin(0), put(0, A, [1]), save(0), back(0, 1), get(0, A)]
        self.assertEqual(ask(*calls)[-2:], [DONE, found([1])])

    def test_the_same_one_twice(self):
        calls = [begin(0), put(0, A, [1]), save(0), put(0, A, [2]), back(0, 1), put(0, A, [3]), get(0, A), back(0, 1),
                 get(0, A), back(0, 1), get(0, A)]
        self.assertEqual(ask(*calls)[6:], [found([3]), DONE, found([1]), DONE, found([1])])

    def test_savepoints_behind_it_are_gone(self):
        calls = [begin(0), save(0), put(0, A, [1]), save(0), put(0, A, [2]), save(0), put(0, A, [3])]
        asked = [back(0, 2), back(0, 3), get(0, A), back(0, 2), back(0, 1), back(0, 2), get(0, A)]
        self.assertEqual(ask(*calls, *asked)[7:], [DONE, ABSENT, found([1]), DONE, DONE, ABSENT, ABSENT])

    def test_any_of_several(self):
        calls = [begin(0)]
        for told in range(1, 9):
            calls += [put(0, A, [told]), save(0)]
        for told in range(1, 9):
            with self.subTest(told=told):
                answers = ask(*calls, put(0, A, [99]), back(0, told), get(0, A), commit(0))
                self.assertEqual(answers[-3:], [DONE, found([told]), changed(told)])

    def test_numbers_from_there_on_again(self):
        calls = [begin(0), *[save(0)] * 8, back(0, 3), *[save(0)] * 6]
        self.assertEqual(ask(*calls)[9:], [DONE] + [number(told) for told in range(4, 9)] + [FULL])

    def test_new_savepoints_hold_what_is_there_then(self):
        calls = [begin(0), save(0), put(0, A, [1]), save(0), back(0, 1), put(0, B, [2]), save(0), put(0, C, [3]),
                 back(0, 2), get(0, A), get(0, B), get(0, C)]
        self.assertEqual(ask(*calls)[6:], [number(2), DONE, DONE, ABSENT, found([2]), ABSENT])

    def test_the_record_is_as_short_as_it_was(self):
        fill = [put(0, [told], [7] * 300) for told in range(12)]
        calls = [begin(0), put(0, A, [1] * 300), save(0), *fill, back(0, 1), *fill]
        self.assertEqual(ask(*calls)[-12:], [DONE] * 12)
        self.assertEqual(ask(*calls, put(0, B, [1] * 31), put(0, B, [1] * 30))[-2:], [FULL, DONE])
        self.assertEqual(len(ask(*calls, list_changes(0))[-1]) - 2, 13 * 305)

    def test_after_a_refused_change(self):
        fill = [put(0, [told], [7] * 300) for told in range(14)]
        calls = [begin(0), save(0), *fill, back(0, 1), put(0, A, [1]), get(0, A), commit(0)]
        self.assertEqual(ask(*calls)[15:], [FULL, DONE, DONE, found([1]), changed(1)])

    def test_settled_only_by_what_is_left(self):
        for change in [put(0, A, [2]), remove(0, A)]:
            calls = [filled(A), begin(0), save(0), change, get(0, A), back(0, 1)]
            self.assertEqual(rows.looks_of(0, calls), 0)
            calls += [get(0, A)]
            self.assertEqual(ask(*calls)[-1], found(A))
            self.assertEqual(rows.looks_of(0, calls), 1)
            self.assertEqual(ask(*calls, replay(rows.remove_record(A)), commit(0))[-1], CLASH)

    def test_settled_by_what_is_left(self):
        calls = [filled(A), begin(0), put(0, A, [2]), save(0), remove(0, A), add(0, 1, A), back(0, 1), get(0, A)]
        self.assertEqual(ask(*calls)[-1], found([2]))
        self.assertEqual(rows.looks_of(0, calls), 0)

    def test_added_to_by_what_is_left(self):
        calls = [begin(0), add(0, 5, A), save(0), add(0, 7, A), remove(0, A), add(0, 9, A), back(0, 1), get(0, A)]
        self.assertEqual(ask(*calls)[-1], found(count_bytes(5)))
        self.assertEqual(rows.looks_of(0, calls), 1)

    def test_what_was_looked_at_stays(self):
        for look in [get(0, A), next_key(0, 0, []), rows.before(0, 0, B), rows.count(0, 1, [], B)]:
            calls = [begin(0), save(0), look, back(0, 1)]
            with self.subTest(look=look):
                self.assertEqual(rows.looks_of(0, calls), 1)
                self.assertEqual(ask(*calls, filled(A), commit(0))[-1], CLASH)

    def test_what_refuses_leaves_the_savepoints(self):
        calls = [begin(0), save(0), save(0), back(0, 0), back(0, 3), save(0)]
        self.assertEqual(ask(*calls)[-3:], [ABSENT, ABSENT, number(3)])


class ListChanges(unittest.TestCase):
    def listed(self, *changes):
        return ask(begin(0), *changes, list_changes(0))[-1]

    def test_no_changes(self):
        self.assertEqual(self.listed(), [0, 0])

    def test_put(self):
        self.assertEqual(self.listed(put(0, A + B, [7, 8, 9])), [1, 0, 1, 2, 65, 66, 3, 0, 7, 8, 9])
        self.assertEqual(self.listed(put(0, A, [])), [1, 0, 1, 1, 65, 0, 0])
        self.assertEqual(self.listed(put(0, A, [7] * 300)), [1, 0, 1, 1, 65, 44, 1] + [7] * 300)
        self.assertEqual(self.listed(put(0, A, [7] * 256)), [1, 0, 1, 1, 65, 0, 1] + [7] * 256)
        self.assertEqual(self.listed(put(0, [9] * 64, [])), [1, 0, 1, 64] + [9] * 64 + [0, 0])

    def test_remove(self):
        self.assertEqual(self.listed(remove(0, A + B)), [1, 0, 2, 2, 65, 66])

    def test_add(self):
        self.assertEqual(self.listed(add(0, 258, A)), [1, 0, 3, 1, 65, 2, 1, 0, 0, 0, 0, 0, 0])
        self.assertEqual(self.listed(add(0, 0, A)), [1, 0, 3, 1, 65] + [0] * 8)

    def test_add_of_numbers_below_0(self):
        self.assertEqual(self.listed(add(0, -1, A)), [1, 0, 3, 1, 65] + [255] * 8)
        self.assertEqual(self.listed(add(0, -2, A)), [1, 0, 3, 1, 65, 254] + [255] * 7)
        self.assertEqual(self.listed(add(0, LEAST, A)), [1, 0, 3, 1, 65] + [0] * 7 + [128])
        self.assertEqual(self.listed(add(0, MOST, A)), [1, 0, 3, 1, 65] + [255] * 7 + [127])

    def test_all_of_them_in_order(self):
        changes = [
            add(0, 1, A), add(0, -1, A), put(0, A, [1]), remove(0, A), remove(0, A), put(0, B, []), put(0, A, [1]),
        ]
        records = [
            rows.add_record(A, 1), rows.add_record(A, -1), rows.put_record(A, [1]), rows.remove_record(A),
            rows.remove_record(A), rows.put_record(B, []), rows.put_record(A, [1]),
        ]
        self.assertEqual(self.listed(*changes), listed(*records))

    def test_refused_ones_are_not_there(self):
        self.assertEqual(self.listed(put(0, [], A), remove(0, []), add(0, 1, []), put(0, A, [1] * 301)), listed())

    def test_nothing_is_changed_or_looked_at(self):
        calls = [begin(0), put(0, A, B), list_changes(0), list_changes(0)]
        told = ask(*calls)
        self.assertEqual(told[2], told[3])
        self.assertEqual(rows.looks_of(0, calls), 0)
        self.assertEqual(ask(*calls, commit(0))[-1], changed(1))

    def test_its_own_changes_alone(self):
        calls = [begin(0), begin(1), put(0, A, B), remove(1, C), list_changes(0), list_changes(1)]
        self.assertEqual(ask(*calls)[-2:], [listed(rows.put_record(A, B)), listed(rows.remove_record(C))])

    def test_done_again_by_replay(self):
        state = filled(A, B)
        changes = [add(0, MOST, C), put(0, A, [1] * 300), add(0, 5, C), remove(0, B), add(0, LEAST, [1] * 64)]
        told = ask(state, begin(0), *changes, list_changes(0))[-1]
        self.assertEqual(ask(state, replay(told[2:]))[-1], changed(5))
        keys = [A, B, C, [1] * 64]
        self.assertEqual(seen([state, replay(told[2:])], *keys), seen([state, begin(0), *changes, commit(0)], *keys))


if __name__ == "__main__":
    unittest.main()
