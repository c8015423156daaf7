"""The interface: how calls are handed in and how their answers are given back."""

import doctest
import pathlib
import unittest

import rows
from keystore.desk import answers

A = [65]
B = [66]
ROOT = pathlib.Path(__file__).resolve().parent.parent


class HandedInAndGivenBack(unittest.TestCase):
    def test_no_calls(self):
        self.assertEqual(answers([]), [])

    def test_begin_answers_two_numbers(self):
        self.assertEqual(answers([1, 0]), [2, 0, 0])

    def test_refusal_answers_its_number_and_0(self):
        self.assertEqual(answers([1, 8]), [2, -1, 0])
        self.assertEqual(answers([3, 0]), [2, -2, 0])

    def test_get_answers_length_0_value(self):
        calls = [1, 0, 11, 0, 1, 65, 3, 7, 8, 9, 10, 0, 1, 65]
        self.assertEqual(answers(calls), [2, 0, 0, 2, 0, 0, 5, 3, 0, 7, 8, 9])

    def test_get_of_an_empty_value(self):
        self.assertEqual(answers([1, 0, 11, 0, 1, 65, 0, 10, 0, 1, 65]), [2, 0, 0, 2, 0, 0, 2, 0, 0])

    def test_every_call_once(self):
        calls = [5, 3, 2, 0, 3, 11, 0, 2, 1, 2, 1, 9, 3, 0, 1, 1, 10, 1, 2, 1, 2, 4, 1, 6, 3, 7, 3, 2, 1, 1]
        told = [2, 0, 0, 2, 0, 0, 2, 0, 0, 2, 1, 0, 2, 0, 0, 3, 1, 0, 9, 2, 0, 0, 2, 0, 0, 2, 1, 0]
        self.assertEqual(answers(calls), told)

    def test_any_call_may_be_first(self):
        first = [
            (rows.begin(0), rows.DONE), (rows.older(0, 0), rows.ABSENT), (rows.commit(0), rows.ABSENT),
            (rows.drop(0), rows.ABSENT), (rows.keep(0), rows.DONE), (rows.forget(0), rows.ABSENT),
            (rows.replay([]), rows.DONE), (rows.get(0, A), rows.ABSENT), (rows.put(0, A, B), rows.ABSENT),
        ]
        for call, answer in first:
            with self.subTest(call=call):
                self.assertEqual(rows.ask(call), [answer])

    def test_rows_of_6000_are_read_to_their_end(self):
        long = [1] * 6000
        calls = [rows.begin(0), rows.put(0, long, long), rows.begin(0), rows.replay([])]
        self.assertEqual(rows.ask(*calls), [rows.DONE, rows.WRONG, rows.DONE, rows.DONE])

    def test_answers_are_plain_whole_numbers(self):
        told = answers(rows.joined([rows.begin(0), rows.put(0, A, B), rows.get(0, A), rows.commit(0), rows.drop(0)]))
        self.assertIs(type(told), list)
        self.assertEqual({type(number) for number in told}, {int})

    def test_readme_example(self):
        result = doctest.testfile(str(ROOT / "README.md"), module_relative=False)
        self.assertGreater(result.attempted, 0)
        self.assertEqual(result.failed, 0)


class NothingKept(unittest.TestCase):
    def calls(self):
        return rows.joined([
            rows.begin(0), rows.get(0, A), rows.put(0, A, B), rows.keep(1), rows.commit(0), rows.begin(2),
            rows.get(2, A), rows.replay(rows.add_record(B, 5)), rows.older(3, 1), rows.get(3, B),
        ])

    def test_what_is_handed_in_stays(self):
        calls = self.calls()
        answers(calls)
        self.assertEqual(calls, self.calls())

    def test_it_is_not_changed_for_a_while_either(self):
        class Watched(list):
            def refuse(self, *given, **named):
                raise AssertionError("what was handed in is changed")

            append = extend = insert = pop = remove = clear = sort = reverse = refuse
            __setitem__ = __delitem__ = __iadd__ = __imul__ = refuse

        self.assertEqual(answers(Watched(self.calls())), answers(self.calls()))

    def test_the_same_twice(self):
        calls = self.calls()
        self.assertEqual(answers(calls), answers(calls))

    def test_a_desk_is_new_each_time(self):
        rows.ask(rows.begin(0), rows.put(0, A, B), rows.commit(0), rows.keep(0), rows.begin(1))
        self.assertEqual(
            rows.ask(rows.begin(0), rows.get(0, A), rows.older(0, 0), rows.drop(1)),
            [rows.DONE, rows.ABSENT, rows.ABSENT, rows.ABSENT],
        )

    def test_what_is_given_back_is_the_callers_own(self):
        calls = self.calls()
        first = answers(calls)
        kept = list(first)
        first.clear()
        self.assertEqual(answers(calls), kept)


if __name__ == "__main__":
    unittest.main()
