"""Points 1 to 6, in the parts that the calls are made of."""

import unittest

from keystore.changes import ADD, NO_BYTES, PUT, REMOVE, change_of_both, is_key, is_start, is_value, value_after
from keystore.counts import count_raised, count_told, is_number, low_first, whole_number
from keystore.draft import draft_with, empty_draft, is_removed, is_settled, nearest_left, value_by
from keystore.looks import Looks
from keystore.maps import DOWN, UP, empty_map, first_place, map_with, part_between, place_behind, place_of, value_at
from keystore.reader import Reader, WrongForm
from keystore.record import change_bytes, read_record
from keystore.state import state_after
from keystore.transaction import Transaction

A = (65,)
B = (66,)
C = (67,)


class Counts(unittest.TestCase):
    def test_there_and_back(self):
        for number in [0, 1, -1, 255, 256, -256, 2**31, 2**63 - 1, -(2**63), 72623859790382856]:
            with self.subTest(number=number):
                self.assertEqual(count_told(low_first(number, 8)), number)
                self.assertEqual(low_first(number, 8), tuple((number % 2**64).to_bytes(8, "little")))

    def test_whole_number(self):
        self.assertEqual(whole_number((44, 1)), 300)
        self.assertEqual(whole_number((255, 255)), 65535)
        self.assertEqual(whole_number(()), 0)

    def test_raised(self):
        self.assertEqual(count_raised(None, 3), (3, 0, 0, 0, 0, 0, 0, 0))
        self.assertEqual(count_raised((3, 0, 0, 0, 0, 0, 0, 0), -4), (255,) * 8)
        self.assertEqual(count_raised((1, 2), 3), (1, 2))


    def test_numbers(self):
        numbers = [-(2**63) - 1, -(2**63), 0, 2**63 - 1, 2**63]
        self.assertEqual([is_number(number) for number in numbers], [False, True, True, True, False])


class Changes(unittest.TestCase):
    def test_keys_and_values(self):
        self.assertEqual([is_key((1,) * length) for length in (0, 1, 64, 65)], [False, True, True, False])
        self.assertEqual([is_start((1,) * length) for length in (0, 1, 64, 65)], [True, True, True, False])
        self.assertEqual([is_value((1,) * length) for length in (0, 300, 301)], [True, True, False])

    def test_two_changes_in_one(self):
        changes = [
            (PUT, A, (1,)), (PUT, A, low_first(7, 8)), (REMOVE, A, None), (ADD, A, 5), (ADD, A, -(2**63)),
            (ADD, A, 2**63 - 1), (ADD, A, 0),
        ]
        for earlier in changes:
            for later in changes:
                both = change_of_both(earlier, later)
                self.assertEqual(both[1], A)
                for value in [None, (), (1, 2), low_first(-1, 8), low_first(2**63 - 1, 8)]:
                    with self.subTest(earlier=earlier, later=later, value=value):
                        wanted = value_after(later, value_after(earlier, value))
                        self.assertEqual(value_after(both, value), wanted)


class Drafts(unittest.TestCase):
    def gathered(self, *changes):
        draft = empty_draft()
        for change in changes:
            draft = draft_with(draft, change)
        return draft

    def test_value_by(self):
        changes = [(ADD, A, 1), (PUT, B, (9,)), (REMOVE, A, None), (ADD, A, 2)]
        self.assertEqual(value_by(self.gathered(*changes), A, None), low_first(2, 8))
        self.assertEqual(value_by(self.gathered(*changes[:1]), A, low_first(4, 8)), low_first(5, 8))
        self.assertEqual(value_by(self.gathered(*changes[:3]), A, (1,)), None)
        self.assertEqual(value_by(self.gathered(*changes), C, (1,)), (1,))

    def test_settled_and_removed(self):
        told = [
            ([], False, False), ([(ADD, A, 1)], False, False), ([(PUT, A, ())], True, False),
            ([(REMOVE, A, None)], True, True), ([(REMOVE, A, None), (ADD, A, 1)], True, False),
            ([(ADD, A, 1), (REMOVE, A, None)], True, True), ([(PUT, B, ()), (REMOVE, C, None)], False, False),
            ([(REMOVE, A, None), (PUT, A, ())], True, False),
        ]
        for changes, settled, removed in told:
            draft = self.gathered(*changes)
            with self.subTest(changes=changes):
                self.assertEqual((is_settled(draft, A), is_removed(draft, A)), (settled, removed))

    def test_the_old_one_stays(self):
        old = self.gathered((PUT, A, (1,)))
        for change in [(PUT, A, (2,)), (REMOVE, A, None), (ADD, B, 1)]:
            draft_with(old, change)
            self.assertEqual((old.changes, old.record), (((PUT, A, (1,)),), change_bytes((PUT, A, (1,)))))
            self.assertEqual((value_by(old, A, None), value_by(old, B, None)), ((1,), None))

    def test_record(self):
        changes = [(ADD, A, 1), (PUT, B, (9,)), (REMOVE, A, None)]
        draft = self.gathered(*changes)
        self.assertEqual(draft.changes, tuple(changes))
        self.assertEqual(read_record(draft.record), changes)

    def test_nearest_left(self):
        pairs = [(A, ()), (B, ()), (C, ())]
        draft = self.gathered((REMOVE, B, None))
        self.assertEqual(nearest_left(draft, pairs, A, False, UP), C)
        self.assertEqual(nearest_left(draft, pairs, C, False, DOWN), A)
        self.assertEqual(nearest_left(draft, pairs, B, True, UP), C)
        self.assertEqual(nearest_left(draft, pairs, C, False, UP), None)
        self.assertEqual(nearest_left(draft, pairs, A, False, DOWN), None)


class Records(unittest.TestCase):
    def test_bytes_of_each_change(self):
        self.assertEqual(change_bytes((PUT, A + B, (7,) * 300)), (1, 2, 65, 66, 44, 1) + (7,) * 300)
        self.assertEqual(change_bytes((REMOVE, A, None)), (2, 1, 65))
        self.assertEqual(change_bytes((ADD, A, -2)), (3, 1, 65, 254) + (255,) * 7)

    def test_there_and_back(self):
        changes = [
            (PUT, A, ()), (REMOVE, (0,) * 64, None), (ADD, B, -(2**63)), (ADD, B, 2**63 - 1), (PUT, C, (3,) * 300),
            (ADD, C, -1), (PUT, (1, 2, 3), (1, 2, 3)),
        ]
        row = [byte for change in changes for byte in change_bytes(change)]
        self.assertEqual(read_record(row), changes)

    def test_no_record(self):
        with self.assertRaises(WrongForm):
            read_record([9])


class Readers(unittest.TestCase):
    def test_pieces(self):
        reader = Reader([5, 2, 8, 9, 0])
        self.assertFalse(reader.ended())
        self.assertEqual(reader.take_one(), 5)
        self.assertEqual(reader.take_counted(), (8, 9))
        self.assertEqual(reader.take_counted(), ())
        self.assertTrue(reader.ended())
        with self.assertRaises(WrongForm):
            reader.take(1)


class States(unittest.TestCase):
    def test_keys_are_in_order(self):
        keys = [(2,), (1, 255), (1,), (255,), (1, 0), (0,), (1, 0, 0), (1,) * 64]
        state = empty_map()
        for key in keys:
            state = map_with(state, key, key)
        self.assertEqual(
            [pair[0] for pair in state],
            [(0,), (1,), (1, 0), (1, 0, 0), (1,) * 64, (1, 255), (2,), (255,)],
        )
        self.assertEqual([value_at(state, key) for key in keys], keys)

    def test_the_old_one_stays(self):
        old = state_after(empty_map(), [(PUT, A, (1,)), (PUT, C, (3,))])
        kept = list(old)
        for change in [(PUT, A, (2,)), (PUT, B, (2,)), (REMOVE, A, None), (REMOVE, B, None), (ADD, C, 1), (ADD, B, 1)]:
            state_after(old, [change])
            self.assertEqual(old, kept)

    def test_done_one_after_another(self):
        changes = [(PUT, B, (1,)), (ADD, A, 5), (REMOVE, B, None), (ADD, A, 6), (ADD, B, 1), (REMOVE, C, None)]
        self.assertEqual(state_after(empty_map(), changes), [(A, low_first(11, 8)), (B, low_first(1, 8))])


class Places(unittest.TestCase):
    pairs = [(A, 1), (A + (0,), 2), (C, 3)]

    def test_below_and_behind(self):
        told = {NO_BYTES: (0, 0), (64,): (0, 0), A: (0, 1), A + (0,): (1, 2), B: (2, 2), C: (2, 3), (255,): (3, 3)}
        for key, places in told.items():
            with self.subTest(key=key):
                self.assertEqual((place_of(self.pairs, key), place_behind(self.pairs, key)), places)

    def test_where_a_side_begins(self):
        told = {NO_BYTES: (0, 0, -1, -1), A: (1, 0, -1, 0), B: (2, 2, 1, 1), C: (3, 2, 1, 2), (255,): (3, 3, 2, 2)}
        for key, places in told.items():
            asked = [(UP, False), (UP, True), (DOWN, False), (DOWN, True)]
            with self.subTest(key=key):
                self.assertEqual(tuple(first_place(self.pairs, key, itself, way) for way, itself in asked), places)

    def test_parts(self):
        told = [
            (NO_BYTES, None, 0, 3), (NO_BYTES, NO_BYTES, 0, 0), (A, A, 0, 1), (A, B, 0, 2), (A + (0,), C, 1, 3),
            (B, None, 2, 3), (B, B, 0, 0), (NO_BYTES, A, 0, 1), ((255,), None, 3, 3), (A + (1,), (66, 1), 0, 0),
        ]
        for low, high, start, end in told:
            with self.subTest(low=low, high=high):
                self.assertEqual(part_between(self.pairs, low, high), self.pairs[start:end])


class WhatWasLookedAt(unittest.TestCase):
    def test_keys_stand_once_and_in_order(self):
        transaction = Transaction(empty_map())
        for key in [B, A, B, C, A]:
            transaction.get(key)
        self.assertEqual(list(transaction.looks.single_keys), [B, A, C])

    def test_stretches_stand_once_and_in_order(self):
        transaction = Transaction([(B, ())])
        for key in [C, A, C, A]:
            transaction.nearest(key, 0, UP)
            transaction.nearest(key, 0, DOWN)
        transaction.nearest(NO_BYTES, 0, UP)
        transaction.nearest(NO_BYTES, 0, DOWN)
        told = [(C, None), (B, C), (A, B), (NO_BYTES, A), (NO_BYTES, B), (NO_BYTES, NO_BYTES)]
        self.assertEqual(list(transaction.looks.stretches), told)

    def test_room(self):
        looks = Looks()
        for number in range(400):
            looks.look_at_key((number // 256, number % 256))
            looks.look_at_stretch((number // 256, number % 256), None)
        self.assertTrue(looks.has_room(200))
        self.assertFalse(looks.has_room(201))


if __name__ == "__main__":
    unittest.main()
