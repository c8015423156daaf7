"""Points 1 to 6, in the parts that the calls are made of."""

import unittest

from keystore.changes import ADD, PUT, REMOVE, is_key, is_value, value_by
from keystore.counts import count_raised, count_told, low_first, whole_number
from keystore.reader import Reader, WrongForm
from keystore.record import change_bytes, read_record
from keystore.state import empty_state, state_after, state_with, value_at
from keystore.transaction import Transaction

A = (65,)
B = (66,)
C = (67,)


class Counts(unittest.TestCase):
    def test_there_and_back(self):
        for number in [0, 1, -1, 255, 256, -256, 2**31, 2**63 - 1, -(2**63), 72623859790382856]:
            with self.subTest(number=number):
                self.assertEqual(count_told(low_first(number, 8)), number)
                self.assertEqual(low_first(number, 8), tuple((number % 2**64).to_bytes(8, "little")))

    def test_whole_number(self):
        self.assertEqual(whole_number((44, 1)), 300)
        self.assertEqual(whole_number((255, 255)), 65535)
        self.assertEqual(whole_number(()), 0)

    def test_raised(self):
        self.assertEqual(count_raised(None, 3), (3, 0, 0, 0, 0, 0, 0, 0))
        self.assertEqual(count_raised((3, 0, 0, 0, 0, 0, 0, 0), -4), (255,) * 8)
        self.assertEqual(count_raised((1, 2), 3), (1, 2))


class Changes(unittest.TestCase):
    def test_keys_and_values(self):
        self.assertEqual([is_key((1,) * length) for length in (0, 1, 64, 65)], [False, True, True, False])
        self.assertEqual([is_value((1,) * length) for length in (0, 300, 301)], [True, True, False])

    def test_value_by(self):
        changes = [(ADD, A, 1), (PUT, B, (9,)), (REMOVE, A, None), (ADD, A, 2)]
        self.assertEqual(value_by(changes, A, None), low_first(2, 8))
        self.assertEqual(value_by(changes[:1], A, low_first(4, 8)), low_first(5, 8))
        self.assertEqual(value_by(changes[:3], A, (1,)), None)
        self.assertEqual(value_by(changes, C, (1,)), (1,))


class Records(unittest.TestCase):
    def test_bytes_of_each_change(self):
        self.assertEqual(change_bytes((PUT, A + B, (7,) * 300)), (1, 2, 65, 66, 44, 1) + (7,) * 300)
        self.assertEqual(change_bytes((REMOVE, A, None)), (2, 1, 65))
        self.assertEqual(change_bytes((ADD, A, -2)), (3, 1, 65, 254) + (255,) * 7)

    def test_there_and_back(self):
        changes = [
            (PUT, A, ()), (REMOVE, (0,) * 64, None), (ADD, B, -(2**63)), (ADD, B, 2**63 - 1), (PUT, C, (3,) * 300),
            (ADD, C, -1), (PUT, (1, 2, 3), (1, 2, 3)),
        ]
        row = [byte for change in changes for byte in change_bytes(change)]
        self.assertEqual(read_record(row), changes)

    def test_no_record(self):
        with self.assertRaises(WrongForm):
            read_record([9])


class Readers(unittest.TestCase):
    def test_pieces(self):
        reader = Reader([5, 2, 8, 9, 0])
        self.assertFalse(reader.ended())
        self.assertEqual(reader.take_one(), 5)
        self.assertEqual(reader.take_counted(), (8, 9))
        self.assertEqual(reader.take_counted(), ())
        self.assertTrue(reader.ended())
        with self.assertRaises(WrongForm):
            reader.take(1)


class States(unittest.TestCase):
    def test_keys_are_in_order(self):
        keys = [(2,), (1, 255), (1,), (255,), (1, 0), (0,), (1, 0, 0), (1,) * 64]
        state = empty_state()
        for key in keys:
            state = state_with(state, key, key)
        self.assertEqual(
            [pair[0] for pair in state],
            [(0,), (1,), (1, 0), (1, 0, 0), (1,) * 64, (1, 255), (2,), (255,)],
        )
        self.assertEqual([value_at(state, key) for key in keys], keys)

    def test_the_old_one_stays(self):
        old = state_after(empty_state(), [(PUT, A, (1,)), (PUT, C, (3,))])
        kept = list(old)
        for change in [(PUT, A, (2,)), (PUT, B, (2,)), (REMOVE, A, None), (REMOVE, B, None), (ADD, C, 1), (ADD, B, 1)]:
            state_after(old, [change])
            self.assertEqual(old, kept)

    def test_done_one_after_another(self):
        changes = [(PUT, B, (1,)), (ADD, A, 5), (REMOVE, B, None), (ADD, A, 6), (ADD, B, 1), (REMOVE, C, None)]
        self.assertEqual(state_after(empty_state(), changes), [(A, low_first(11, 8)), (B, low_first(1, 8))])


class SettledKeys(unittest.TestCase):
    """A key that is only added to is not settled; one that is put or removed is."""

    def test_kinds(self):
        told = {ADD: False, PUT: True, REMOVE: True}
        for kind, operand in [(PUT, (1,)), (REMOVE, None), (ADD, 5)]:
            transaction = Transaction(empty_state())
            transaction.change_more((kind, A, operand))
            self.assertEqual(transaction.is_settled(A), told[kind])
            self.assertFalse(transaction.is_settled(B))
            transaction.get(A)
            self.assertEqual(list(transaction.looks), [] if told[kind] else [A])

    def test_looks_stand_once_and_in_order(self):
        transaction = Transaction(empty_state())
        for key in [B, A, B, C, A]:
            transaction.get(key)
        self.assertEqual(list(transaction.looks), [B, A, C])


if __name__ == "__main__":
    unittest.main()
