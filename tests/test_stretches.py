"""Points 6, 9 and 12: stretches of keys that were looked at, and what clashes with them."""

import unittest

import rows
from keystore.changes import NO_BYTES
from keystore.looks import Looks
from rows import (
    A, ABSENT, B, C, CLASH, D, E, LAST, NONE, add, ask, before, begin, changed, commit, count_bytes, filled, get,
    keep, key_found, next_key, older, put, remove, replay, seen,
)


def gone(key):
    return replay(rows.remove_record(key))


def another(key):
    return replay(rows.put_record(key, [1, 2, 3]))


class Within(unittest.TestCase):
    """The state has B and D; the transaction looks once, and then others change one thing."""

    def committed(self, look, *between, own=()):
        return ask(filled(B, D), begin(0), *own, look, *between, commit(0))[-1]

    def clashes(self, look, *changes, own=()):
        for change in changes:
            with self.subTest(look=look, change=change):
                self.assertEqual(self.committed(look, change, own=own), CLASH)

    def commits(self, look, *changes, own=()):
        for change in changes:
            with self.subTest(look=look, change=change):
                self.assertEqual(self.committed(look, change, own=own), changed(len(own)))

    def test_next_from_a_key_that_is_there(self):
        inside = [filled(B + [0]), filled(C), filled([67] * 64), another(B), another(D), gone(B), gone(D)]
        outside = [filled(A), filled([65] * 64), filled(D + [0]), filled(E), filled(LAST), filled([0])]
        self.clashes(next_key(0, 0, B), *inside)
        self.commits(next_key(0, 0, B), *outside)

    def test_before_from_a_key_that_is_there(self):
        inside = [filled(B + [0]), filled(C), filled([67] * 64), another(B), another(D), gone(B), gone(D)]
        outside = [filled(A), filled([65] * 64), filled(D + [0]), filled(E), filled(LAST), filled([0])]
        self.clashes(before(0, 0, D), *inside)
        self.commits(before(0, 0, D), *outside)

    def test_from_a_key_that_is_not_there(self):
        self.clashes(next_key(0, 0, C), filled(C), filled(C + [0]), another(D), gone(D))
        self.commits(next_key(0, 0, C), filled(B + [0]), another(B), gone(B), filled(D + [0]))
        self.clashes(before(0, 0, C), filled(C), filled(B + [255]), another(B), gone(B))
        self.commits(before(0, 0, C), filled(A), another(D), gone(D), filled(C + [0]))

    def test_a_key_that_is_found_itself(self):
        for step in [next_key, before]:
            self.clashes(step(0, 1, B), another(B), gone(B))
            self.commits(step(0, 1, B), filled(B + [0]), filled(A + [255]), another(D), gone(D))

    def test_from_no_bytes_on(self):
        self.clashes(next_key(0, 0, NONE), filled([0]), filled(A), gone(B), another(B))
        self.commits(next_key(0, 0, NONE), filled(B + [0]), gone(D), another(D), filled(LAST))

    def test_next_where_there_is_none(self):
        self.clashes(next_key(0, 0, D), filled(D + [0]), filled(E), filled(LAST), another(D), gone(D))
        self.commits(next_key(0, 0, D), filled(C), gone(B), another(B), filled([0]))
        self.clashes(next_key(0, 1, E), filled(E), filled(LAST))
        self.commits(next_key(0, 1, E), filled(D + [0]), gone(D), another(D))

    def test_before_where_there_is_none(self):
        self.clashes(before(0, 0, B), filled([0]), filled(A), filled(A + [255]), another(B), gone(B))
        self.commits(before(0, 0, B), filled(B + [0]), filled(C), gone(D), another(D), filled(LAST))
        self.clashes(before(0, 1, A), filled([0]), filled(A))
        self.commits(before(0, 1, A), filled(A + [0]), gone(B), another(B))

    def test_before_no_bytes_holds_nothing(self):
        for itself in [0, 1]:
            self.commits(before(0, itself, NONE), filled([0]), filled(A), gone(B), another(D), filled(LAST))

    def test_without_end_in_an_empty_state(self):
        for change in [filled([0]), filled(LAST)]:
            self.assertEqual(ask(begin(0), next_key(0, 0, NONE), change, commit(0))[-1], CLASH)

    def test_up_to_an_own_key(self):
        own = [put(0, C, [7])]
        self.clashes(next_key(0, 0, B), filled(C), filled(B + [0]), gone(B), another(B), own=own)
        self.commits(next_key(0, 0, B), filled(C + [0]), gone(D), another(D), own=own)
        self.clashes(before(0, 0, D), filled(C), filled(C + [0]), gone(D), another(D), own=own)
        self.commits(before(0, 0, D), filled(B + [0]), gone(B), another(B), own=own)

    def test_up_to_an_own_key_only_added_to(self):
        own = [add(0, 1, C)]
        self.clashes(next_key(0, 0, B), filled(C), replay(rows.add_record(C, 0)), own=own)
        self.commits(next_key(0, 0, B), filled(C + [0]), gone(D), own=own)

    def test_removed_keys_belong_to_it(self):
        own = [remove(0, D)]
        self.clashes(next_key(0, 0, B), gone(D), another(D), filled(LAST), own=own)
        own = [remove(0, B)]
        self.clashes(next_key(0, 0, A), gone(B), another(B), another(D), filled(C), own=own)
        self.commits(next_key(0, 0, A), filled(D + [0]), filled([64]), own=own)

    def test_what_has_come_back(self):
        there_again = [
            [another(B), filled(B)], [gone(B), filled(B)], [filled(C), gone(C)], [replay([])], [filled(B)],
            [filled(C), filled(E), gone(C), gone(E)],
        ]
        for look in [next_key(0, 0, B), before(0, 0, LAST), next_key(0, 0, NONE), next_key(0, 0, E)]:
            for between in there_again:
                with self.subTest(look=look, between=between):
                    self.assertEqual(self.committed(look, *between), changed(0))

    def test_a_key_in_the_place_of_another(self):
        self.assertEqual(self.committed(next_key(0, 0, B), gone(D), filled(C)), CLASH)
        value_of_d = replay(rows.remove_record(D) + rows.put_record(C, D))
        self.assertEqual(self.committed(next_key(0, 0, B), value_of_d), CLASH)

    def test_one_of_several_looks(self):
        looks = [next_key(0, 1, B), next_key(0, 1, D), get(0, [1])]
        for change, answer in [(another(B), CLASH), (gone(D), CLASH), (filled([1]), CLASH), (filled(C), changed(0))]:
            with self.subTest(change=change):
                self.assertEqual(ask(filled(B, D), begin(0), *looks, change, commit(0))[-1], answer)

    def test_a_clash_changes_nothing_and_it_is_gone(self):
        calls = [filled(B, D), begin(0), next_key(0, 0, B), put(0, A, [7]), filled(C), commit(0)]
        self.assertEqual(ask(*calls, commit(0), next_key(0, 0, B))[-3:], [CLASH, ABSENT, ABSENT])
        self.assertEqual(seen(calls, A, C), [ABSENT, rows.found(C)])


class ByCommits(unittest.TestCase):
    def test_two_that_take_the_next_free_key(self):
        steps = [[begin(i), before(i, 0, LAST), put(i, [67], [i])] for i in (0, 1)]
        calls = [filled(B)] + steps[0] + steps[1] + [commit(0), commit(1)]
        self.assertEqual(ask(*calls)[-2:], [changed(1), CLASH])

    def test_changes_within_and_outside_of_what_the_other_looked_at(self):
        calls = [filled(B, D), begin(0), begin(1), next_key(0, 0, B), next_key(1, 0, E), put(0, E, []), put(1, C, []),
                 commit(0), commit(1)]
        self.assertEqual(ask(*calls)[-2:], [changed(1), CLASH])
        calls[-2:] = [commit(1), commit(0)]
        self.assertEqual(ask(*calls)[-2:], [changed(1), CLASH])
        calls = [filled(B, D), begin(0), begin(1), next_key(0, 0, B), next_key(1, 0, E), put(0, A, []), put(1, [1], []),
                 commit(0), commit(1)]
        self.assertEqual(ask(*calls)[-2:], [changed(1), changed(1)])

    def test_its_own_changes_are_no_clash(self):
        calls = [filled(B, D), begin(0), next_key(0, 0, B), put(0, C, []), next_key(0, 0, B), remove(0, D),
                 next_key(0, 0, C), commit(0)]
        self.assertEqual(ask(*calls)[-1], changed(2))

    def test_two_that_add_and_look_at_nothing(self):
        calls = [begin(0), begin(1), add(0, 2, A), add(1, 3, A), add(1, 4, A), commit(0), commit(1)]
        self.assertEqual(ask(*calls)[-2:], [changed(1), changed(2)])
        self.assertEqual(seen(calls, A), [rows.found(count_bytes(9))])

    def test_one_that_adds_and_looks(self):
        calls = [begin(0), begin(1), add(0, 2, A), next_key(0, 0, NONE), add(1, 3, A), commit(1), commit(0)]
        self.assertEqual(ask(*calls)[3:], [key_found(A, count_bytes(2)), rows.DONE, changed(1), CLASH])


class OlderStates(unittest.TestCase):
    def committed(self, *steps):
        return ask(filled(B, D), keep(0), filled(E), older(0, 0), *steps, commit(0))[-1]

    def test_where_the_present_state_is_another(self):
        self.assertEqual(self.committed(next_key(0, 0, D)), CLASH)
        self.assertEqual(self.committed(before(0, 0, LAST)), CLASH)
        self.assertEqual(self.committed(rows.count(0, 3, NONE, LAST)), CLASH)

    def test_where_it_is_the_same(self):
        self.assertEqual(self.committed(next_key(0, 0, B), before(0, 0, B), put(0, C, [])), changed(1))
        self.assertEqual(self.committed(rows.count(0, 2, NONE, LAST)), changed(0))
        self.assertEqual(self.committed(next_key(0, 0, D), gone(E)), changed(0))


class ManyKeys(unittest.TestCase):
    """More than 99999 keys in a stretch clash, unless the states are the same altogether."""

    def state(self, how_many):
        return [((1, number // 65536, number // 256 % 256, number % 256), ()) for number in range(how_many)]

    def looks(self, low, high):
        looks = Looks()
        looks.look_at_stretch(low, high)
        return looks

    def test_99999_are_compared(self):
        one = self.state(99999)
        self.assertFalse(self.looks((1,), (2,)).differ(one, list(one) + [((3,), ())]))
        self.assertTrue(self.looks((1,), (3,)).differ(one, list(one) + [((3,), ())]))

    def test_100000_clash(self):
        one = self.state(100000)
        self.assertTrue(self.looks((1,), (2,)).differ(one, list(one) + [((3,), ())]))
        self.assertTrue(self.looks(NO_BYTES, None).differ([((0,), ())] + one, [((0,), (1,))] + one))

    def test_the_same_altogether(self):
        one = self.state(100000)
        self.assertFalse(self.looks((1,), (2,)).differ(one, list(one)))
        self.assertFalse(self.looks(NO_BYTES, None).differ(one, list(one)))

    def test_many_keys_outside_the_stretch(self):
        one = self.state(100000)
        self.assertFalse(self.looks((2,), None).differ(one, [((0,), ())] + one))


if __name__ == "__main__":
    unittest.main()
