"""Points 12 to 14: begin, older, commit, drop, keep and forget, and the order of refusals."""

import unittest

import rows
from rows import (
    A, ABSENT, B, C, CLASH, DONE, NO_SLOTS, WRONG, ask, begin, changed, commit, drop, forget, found, get, keep,
    older, put, replay, seen,
)

SLOTS = range(8)


def steps(i):
    """Each step of transaction i, as it may be."""
    return [
        get(i, A), put(i, A, B), rows.remove(i, A), rows.add(i, 5, A), rows.next_key(i, 0, A), rows.before(i, 1, A),
        rows.count(i, 5, [], A), rows.save(i), rows.back(i, 1), rows.list_changes(i),
    ]


def wrong_steps(i):
    """Steps of transaction i that are refused with -1 where there is such a transaction."""
    return [
        get(i, []), get(i, A * 65), put(i, [], B), put(i, A * 65, B), put(i, A, [1] * 301), rows.remove(i, []),
        rows.remove(i, A * 65), rows.add(i, 5, []), rows.add(i, 5, A * 65), rows.next_key(i, 0, A * 65),
        rows.before(i, 1, A * 65), rows.count(i, 5, A * 65, A), rows.count(i, 5, A, []), rows.count(i, 5, A, A * 65),
        rows.count(i, -1, A, A), rows.count(i, 1001, A, A),
    ]


class Slots(unittest.TestCase):
    def test_numbers_that_are_none(self):
        for number in NO_SLOTS:
            calls = [
                begin(number), older(number, 0), older(0, number), older(number, number), commit(number),
                drop(number), keep(number), forget(number), *steps(number), *wrong_steps(number),
                rows.back(number, 0), rows.back(number, -1),
            ]
            for call in calls:
                with self.subTest(call=call):
                    self.assertEqual(ask(call), [WRONG])
                    self.assertEqual(ask(keep(0), begin(0), call)[2], WRONG)

    def test_0_to_7_without_any(self):
        for number in SLOTS:
            calls = [older(0, number), commit(number), drop(number), forget(number), *steps(number),
                     *wrong_steps(number), rows.back(number, 0)]
            for call in calls:
                with self.subTest(call=call):
                    self.assertEqual(ask(call), [ABSENT])
                    self.assertEqual(ask(begin((number + 1) % 8), call)[1], ABSENT)

    def test_steps_of_one_that_is_there(self):
        for number in SLOTS:
            with self.subTest(number=number):
                of_a = rows.key_found(A, rows.count_bytes(5))
                told = [found(B), DONE, DONE, DONE, ABSENT, of_a, [1, 0], [1, 0], DONE]
                calls = [replay(rows.put_record(A, B)), begin(number)] + steps(number)
                self.assertEqual(ask(*calls)[2:-1], told)
                record = [rows.put_record(A, B), rows.remove_record(A), rows.add_record(A, 5)]
                self.assertEqual(ask(*calls)[-1], rows.listed(*record))

    def test_steps_of_one_leave_the_others(self):
        calls = [begin(3), *steps(3), begin(4), get(4, A), rows.back(4, 1), rows.list_changes(4), commit(4)]
        self.assertEqual(ask(*calls)[-4:], [ABSENT, ABSENT, DONE, DONE])
        self.assertEqual(rows.looks_of(4, [begin(4), begin(3), *steps(3)]), 0)

    def test_0_to_7_with_one(self):
        for number in SLOTS:
            with self.subTest(number=number):
                calls = [begin(number), put(number, A, B), get(number, A), commit(number), keep(number),
                         older(number, number), get(number, A), drop(number), forget(number)]
                told = [DONE, DONE, found(B), changed(1), DONE, DONE, found(B), DONE, DONE]
                self.assertEqual(ask(*calls), told)

    def test_eight_of_each_at_once(self):
        calls = []
        for number in SLOTS:
            calls += [begin(number), put(number, A, [number]), keep(number), replay(rows.put_record(B, [number]))]
        told = ask(*calls, *[get(number, A) for number in SLOTS], *[older(number, number) for number in SLOTS],
                   *[get(number, B) for number in SLOTS])[len(calls):]
        self.assertEqual(told[:8], [found([number]) for number in SLOTS])
        self.assertEqual(told[8:16], [DONE] * 8)
        self.assertEqual(told[16:], [ABSENT] + [found([number]) for number in range(7)])

    def test_wrong_number_goes_ahead_of_all(self):
        for number in NO_SLOTS:
            with self.subTest(number=number):
                self.assertEqual(ask(older(number, 3), older(3, number)), [WRONG] * 2)

    def test_no_transaction_goes_ahead_of_a_wrong_key(self):
        calls = wrong_steps(0)
        self.assertEqual(ask(*calls), [ABSENT] * len(calls))
        self.assertEqual(ask(begin(0), *calls)[1:], [WRONG] * len(calls))

    def test_a_refusal_changes_nothing(self):
        kept = [begin(0), put(0, A, B), keep(0)]
        for number in NO_SLOTS:
            refused = [begin(number), older(number, 0), older(0, number), commit(number), drop(number),
                       keep(number), forget(number), *steps(number), older(0, 5), commit(3), drop(3), forget(3)]
            told = ask(*kept, *refused, get(0, A), commit(0), older(1, 0), get(1, A))
            with self.subTest(number=number):
                self.assertEqual(told[3:-4], [WRONG] * 17 + [ABSENT] * 4)
                self.assertEqual(told[-4:], [found(B), changed(1), DONE, ABSENT])


class Begin(unittest.TestCase):
    def test_at_first_the_state_is_empty(self):
        self.assertEqual(ask(begin(0), get(0, A))[1], ABSENT)

    def test_anew_changes_are_gone(self):
        calls = [begin(0), put(0, A, B), begin(0), get(0, A), commit(0)]
        self.assertEqual(ask(*calls)[2:], [DONE, ABSENT, DONE])

    def test_anew_looks_are_gone(self):
        calls = [begin(0), get(0, A), replay(rows.put_record(A, B)), begin(0), put(0, C, C), commit(0)]
        self.assertEqual(ask(*calls)[-1], changed(1))

    def test_anew_it_has_the_present_state(self):
        calls = [begin(0), get(0, A), replay(rows.put_record(A, B)), get(0, A), begin(0), get(0, A), commit(0)]
        self.assertEqual(ask(*calls)[3:], [ABSENT, DONE, found(B), DONE])

    def test_anew_over_an_older_one(self):
        calls = [keep(2), replay(rows.put_record(A, B)), older(0, 2), get(0, A), begin(0), get(0, A)]
        self.assertEqual(ask(*calls)[3:], [ABSENT, DONE, found(B)])

    def test_others_stay(self):
        calls = [begin(0), put(0, A, B), begin(1), get(0, A), get(1, A)]
        self.assertEqual(ask(*calls)[3:], [found(B), ABSENT])


class Commit(unittest.TestCase):
    def test_how_many_changes(self):
        for how_many in [0, 1, 2, 100]:
            calls = [begin(4)] + [put(4, [number], A) for number in range(how_many)] + [commit(4)]
            with self.subTest(how_many=how_many):
                self.assertEqual(ask(*calls)[-1], changed(how_many))

    def test_it_is_gone(self):
        calls = [begin(0), put(0, A, B), commit(0), commit(0), get(0, A), put(0, A, B), drop(0)]
        self.assertEqual(ask(*calls)[2:], [changed(1), ABSENT, ABSENT, ABSENT, ABSENT])

    def test_changes_are_done_in_order(self):
        self.assertEqual(seen([begin(0), put(0, A, [1]), put(0, A, [2]), commit(0)], A), [found([2])])

    def test_the_present_state_keeps_what_others_did(self):
        calls = [begin(0), begin(1), put(0, A, [1]), put(1, B, [2]), commit(0), commit(1)]
        self.assertEqual(seen(calls, A, B), [found([1]), found([2])])

    def test_the_later_commit_holds_where_nothing_was_looked_at(self):
        calls = [begin(0), begin(1), put(0, A, [1]), put(1, A, [2]), commit(1), commit(0)]
        self.assertEqual(ask(*calls)[-2:], [changed(1), changed(1)])
        self.assertEqual(seen(calls, A), [found([1])])

    def test_others_are_not_gone(self):
        calls = [begin(0), begin(1), put(1, A, B), commit(0), get(1, A)]
        self.assertEqual(ask(*calls)[-1], found(B))


class Clash(unittest.TestCase):
    def clashing(self, before, between):
        """Commit's answer where A was looked at between two records that others did."""
        return ask(replay(before), begin(0), get(0, A), put(0, B, [9]), replay(between), commit(0))[-1]

    def test_another_value(self):
        self.assertEqual(self.clashing(rows.put_record(A, [1]), rows.put_record(A, [2])), CLASH)

    def test_a_value_that_goes_on(self):
        self.assertEqual(self.clashing(rows.put_record(A, [1]), rows.put_record(A, [1, 0])), CLASH)
        self.assertEqual(self.clashing(rows.put_record(A, []), rows.put_record(A, [0])), CLASH)

    def test_removed(self):
        self.assertEqual(self.clashing(rows.put_record(A, [1]), rows.remove_record(A)), CLASH)
        self.assertEqual(self.clashing(rows.put_record(A, []), rows.remove_record(A)), CLASH)

    def test_there_now(self):
        self.assertEqual(self.clashing([], rows.put_record(A, [1])), CLASH)
        self.assertEqual(self.clashing([], rows.put_record(A, [])), CLASH)

    def test_added_to(self):
        self.assertEqual(self.clashing([], rows.add_record(A, 0)), CLASH)
        self.assertEqual(self.clashing(rows.add_record(A, 3), rows.add_record(A, 1)), CLASH)

    def test_another_key_is_no_clash(self):
        self.assertEqual(self.clashing(rows.put_record(A, [1]), rows.put_record(B, [2])), changed(1))
        self.assertEqual(self.clashing(rows.put_record(A, [1]), rows.put_record(A + [0], [2])), changed(1))

    def test_the_same_value_again_is_no_clash(self):
        self.assertEqual(self.clashing(rows.put_record(A, [1]), rows.put_record(A, [1])), changed(1))
        back = rows.put_record(A, [2]) + rows.put_record(A, [1])
        self.assertEqual(self.clashing(rows.put_record(A, [1]), back), changed(1))
        self.assertEqual(self.clashing([], rows.put_record(A, [1]) + rows.remove_record(A)), changed(1))
        self.assertEqual(self.clashing(rows.add_record(A, 3), rows.add_record(A, 0)), changed(1))

    def test_there_and_back_in_two_calls_is_no_clash(self):
        calls = [begin(0), get(0, A), replay(rows.put_record(A, B)), replay(rows.remove_record(A)), commit(0)]
        self.assertEqual(ask(*calls)[-1], changed(0))

    def test_it_is_gone_and_the_present_state_stays(self):
        calls = [begin(0), get(0, A), put(0, A, [7]), put(0, B, [8]), replay(rows.put_record(A, [1])), commit(0)]
        self.assertEqual(ask(*calls, commit(0), get(0, A), drop(0))[-4:], [CLASH, ABSENT, ABSENT, ABSENT])
        self.assertEqual(seen(calls, A, B), [found([1]), ABSENT])

    def test_without_changes_too(self):
        calls = [begin(0), get(0, A), replay(rows.put_record(A, [1])), commit(0)]
        self.assertEqual(ask(*calls)[-1], CLASH)

    def test_its_own_value_is_not_what_is_compared(self):
        calls = [begin(0), get(0, A), put(0, A, [7]), replay(rows.put_record(A, [7])), commit(0)]
        self.assertEqual(ask(*calls)[-1], CLASH)
        calls = [begin(0), get(0, A), put(0, A, [7]), commit(0)]
        self.assertEqual(ask(*calls)[-1], changed(1))

    def test_a_settled_key_does_not_clash(self):
        calls = [begin(0), put(0, A, [7]), get(0, A), replay(rows.put_record(A, [1])), commit(0)]
        self.assertEqual(ask(*calls)[-1], changed(1))
        self.assertEqual(seen(calls, A), [found([7])])

    def test_a_key_that_was_put_alone_does_not_clash(self):
        calls = [begin(0), put(0, A, [7]), replay(rows.put_record(A, [1])), commit(0)]
        self.assertEqual(ask(*calls)[-1], changed(1))

    def test_one_of_several(self):
        for touched in [A, B, C]:
            calls = [begin(0), get(0, A), get(0, B), get(0, C), replay(rows.put_record(touched, [])), commit(0)]
            with self.subTest(touched=touched):
                self.assertEqual(ask(*calls)[-1], CLASH)

    def test_two_that_count_up(self):
        calls = [begin(0), begin(1), get(0, A), get(1, A), put(0, A, [1]), put(1, A, [1]), commit(0), commit(1)]
        self.assertEqual(ask(*calls)[-2:], [changed(1), CLASH])


class Drop(unittest.TestCase):
    def test_it_is_gone(self):
        calls = [begin(0), put(0, A, B), drop(0), get(0, A), commit(0), drop(0)]
        self.assertEqual(ask(*calls)[2:], [DONE, ABSENT, ABSENT, ABSENT])

    def test_the_present_state_stays(self):
        self.assertEqual(seen([replay(rows.put_record(A, B)), begin(0), put(0, A, C), drop(0)], A), [found(B)])

    def test_others_stay(self):
        calls = [begin(0), begin(1), put(1, A, B), keep(0), drop(0), get(1, A), older(0, 0)]
        self.assertEqual(ask(*calls)[-2:], [found(B), DONE])


class OlderStates(unittest.TestCase):
    def test_an_older_one_stays_when_the_present_one_changes(self):
        calls = [
            replay(rows.put_record(A, [1])), keep(0), begin(1), put(1, A, [2]), commit(1),
            replay(rows.put_record(B, [3])), older(0, 0), get(0, A), get(0, B),
        ]
        self.assertEqual(ask(*calls)[-2:], [found([1]), ABSENT])
        self.assertEqual(seen(calls, A, B), [found([2]), found([3])])

    def test_several_stay_apart(self):
        calls = []
        for number in SLOTS:
            calls += [replay(rows.put_record(A, [number])), keep(number)]
        calls += [replay(rows.remove_record(A))]
        for number in SLOTS:
            told = ask(*calls, older(3, number), get(3, A))
            with self.subTest(number=number):
                self.assertEqual(told[-2:], [DONE, found([number])])

    def test_keep_again(self):
        calls = [keep(0), replay(rows.put_record(A, B)), keep(0), older(1, 0), get(1, A)]
        self.assertEqual(ask(*calls)[-1], found(B))

    def test_keep_leaves_what_has_begun(self):
        calls = [keep(0), older(1, 0), replay(rows.put_record(A, B)), keep(0), get(1, A)]
        self.assertEqual(ask(*calls)[-1], ABSENT)

    def test_keep_keeps_the_present_state_alone(self):
        calls = [begin(0), put(0, A, B), keep(0), older(1, 0), get(1, A), get(0, A)]
        self.assertEqual(ask(*calls)[-2:], [ABSENT, found(B)])

    def test_an_empty_state_can_be_kept(self):
        self.assertEqual(ask(keep(5), older(0, 5), get(0, A)), [DONE, DONE, ABSENT])

    def test_older_begins_anew(self):
        calls = [keep(0), begin(1), put(1, A, B), get(1, C), older(1, 0), get(1, A), commit(1)]
        self.assertEqual(ask(*calls)[-3:], [DONE, ABSENT, DONE])

    def test_older_that_is_refused_leaves_the_transaction(self):
        calls = [begin(1), put(1, A, B), older(1, 0), get(1, A)]
        self.assertEqual(ask(*calls)[-2:], [ABSENT, found(B)])

    def test_the_two_numbers_are_not_one_another(self):
        calls = [replay(rows.put_record(A, B)), keep(3), older(5, 3), get(5, A), older(3, 5), get(3, A)]
        self.assertEqual(ask(*calls)[2:], [DONE, found(B), ABSENT, ABSENT])

    def test_changes_on_an_older_one_leave_it(self):
        calls = [keep(0), older(1, 0), put(1, A, B), older(2, 0), get(2, A), commit(1), older(2, 0), get(2, A)]
        self.assertEqual(ask(*calls)[4:], [ABSENT, changed(1), DONE, ABSENT])

    def test_commit_is_done_on_the_present_state(self):
        calls = [keep(0), replay(rows.put_record(A, [1])), older(1, 0), put(1, B, [2]), commit(1)]
        self.assertEqual(ask(*calls)[-1], changed(1))
        self.assertEqual(seen(calls, A, B), [found([1]), found([2])])

    def test_commit_clashes_with_the_present_state(self):
        calls = [keep(0), replay(rows.put_record(A, [1])), older(1, 0), get(1, A), put(1, B, [2]), commit(1)]
        self.assertEqual(ask(*calls)[-1], CLASH)
        self.assertEqual(seen(calls, A, B), [found([1]), ABSENT])

    def test_commit_of_an_older_one_where_nothing_is_another(self):
        calls = [keep(0), replay(rows.put_record(A, [1])), older(1, 0), get(1, B), put(1, B, [2]), commit(1)]
        self.assertEqual(ask(*calls)[-1], changed(1))

    def test_forget(self):
        calls = [keep(0), keep(1), forget(0), older(0, 0), forget(0), older(0, 1), forget(1), forget(1)]
        self.assertEqual(ask(*calls)[2:], [DONE, ABSENT, ABSENT, DONE, DONE, ABSENT])

    def test_forget_leaves_what_has_begun_and_the_present_state(self):
        calls = [replay(rows.put_record(A, B)), keep(0), older(1, 0), forget(0), get(1, A)]
        self.assertEqual(ask(*calls)[-1], found(B))
        self.assertEqual(seen(calls, A), [found(B)])


if __name__ == "__main__":
    unittest.main()
