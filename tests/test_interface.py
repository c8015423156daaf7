"""The interface: how calls are handed in and how their answers are given back."""

import doctest
import pathlib
import unittest

import rows
from keystore.desk import answers
from rows import A, B, key_number

ROOT = pathlib.Path(__file__).resolve().parent.parent


class HandedInAndGivenBack(unittest.TestCase):
    def test_no_calls(self):
        self.assertEqual(answers([]), [])

    def test_begin_answers_two_numbers(self):
        self.assertEqual(answers([1, 0]), [2, 0, 0])

    def test_refusal_answers_its_number_and_0(self):
        self.assertEqual(answers([1, 8]), [2, -1, 0])
        self.assertEqual(answers([3, 0]), [2, -2, 0])

    def test_get_answers_length_0_value(self):
        calls = [1, 0, 11, 0, 1, 65, 3, 7, 8, 9, 10, 0, 1, 65]
        self.assertEqual(answers(calls), [2, 0, 0, 2, 0, 0, 5, 3, 0, 7, 8, 9])

    def test_get_of_an_empty_value(self):
        self.assertEqual(answers([1, 0, 11, 0, 1, 65, 0, 10, 0, 1, 65]), [2, 0, 0, 2, 0, 0, 2, 0, 0])

    def test_every_call_once(self):
        calls = [5, 3, 2, 0, 3, 11, 0, 2, 1, 2, 1, 9, 3, 0, 1, 1, 10, 1, 2, 1, 2, 4, 1, 6, 3, 7, 3, 2, 1, 1]
        told = [2, 0, 0, 2, 0, 0, 2, 0, 0, 2, 1, 0, 2, 0, 0, 3, 1, 0, 9, 2, 0, 0, 2, 0, 0, 2, 1, 0]
        self.assertEqual(answers(calls), told)

    def test_every_step_once(self):
        calls = [
            1, 0, 11, 0, 1, 65, 2, 7, 8, 17, 0, 13, 0, -1, 2, 65, 66, 12, 0, 1, 65, 14, 0, 0, 0, 15, 0, 1, 1, 66,
            16, 0, 9, 0, 1, 70, 10, 0, 1, 65, 19, 0, 18, 0, 1, 14, 0, 1, 1, 65, 15, 0, 0, 0, 19, 0, 3, 0,
        ]
        found = [12, 8, 2, 65, 66] + [255] * 8
        told = [2, 0, 0, 2, 0, 0, 2, 1, 0, 2, 0, 0, 2, 0, 0] + found + found + [2, 1, 0, 2, -2, 0]
        told += [24, 3, 0, 1, 1, 65, 2, 0, 7, 8, 3, 2, 65, 66] + [255] * 8 + [2, 1, 65]
        told += [2, 0, 0, 5, 2, 1, 65, 7, 8, 2, -2, 0, 9, 1, 0, 1, 1, 65, 2, 0, 7, 8, 2, 1, 0]
        self.assertEqual(answers(calls), told)

    def test_rows_of_6000_of_each_step(self):
        long = [1] * 6000
        for step in [rows.remove(0, long), rows.add(0, 1, long), rows.next_key(0, 0, long), rows.before(0, 1, long),
                     rows.count(0, 1, long, long)]:
            self.assertEqual(rows.ask(rows.begin(0), step, rows.save(0)), [rows.DONE, rows.WRONG, [1, 0]])

    def test_any_call_may_be_first(self):
        first = [
            (rows.begin(0), rows.DONE), (rows.older(0, 0), rows.ABSENT), (rows.commit(0), rows.ABSENT),
            (rows.drop(0), rows.ABSENT), (rows.keep(0), rows.DONE), (rows.forget(0), rows.ABSENT),
            (rows.replay([]), rows.DONE), (rows.get(0, A), rows.ABSENT), (rows.put(0, A, B), rows.ABSENT),
            (rows.remove(0, A), rows.ABSENT), (rows.add(0, 1, A), rows.ABSENT), (rows.next_key(0, 0, A), rows.ABSENT),
            (rows.before(0, 0, A), rows.ABSENT), (rows.count(0, 1, A, B), rows.ABSENT), (rows.save(0), rows.ABSENT),
            (rows.back(0, 1), rows.ABSENT), (rows.list_changes(0), rows.ABSENT),
        ]
        for call, answer in first:
            with self.subTest(call=call):
                self.assertEqual(rows.ask(call), [answer])

    def test_rows_of_6000_are_read_to_their_end(self):
        long = [1] * 6000
        calls = [rows.begin(0), rows.put(0, long, long), rows.begin(0), rows.replay([])]
        self.assertEqual(rows.ask(*calls), [rows.DONE, rows.WRONG, rows.DONE, rows.DONE])

    def test_answers_are_plain_whole_numbers(self):
        told = answers(rows.joined([
            rows.begin(0), rows.put(0, A, B), rows.get(0, A), rows.save(0), rows.add(0, 1, B), rows.count(0, 2, A, B),
            rows.next_key(0, 1, B), rows.before(0, 0, B), rows.list_changes(0), rows.back(0, 1), rows.commit(0),
            rows.drop(0),
        ]))
        self.assertIs(type(told), list)
        self.assertEqual({type(number) for number in told}, {int})

    def test_readme_example(self):
        result = doctest.testfile(str(ROOT / "README.md"), module_relative=False)
        self.assertGreater(result.attempted, 0)
        self.assertEqual(result.failed, 0)


class NothingKept(unittest.TestCase):
    def calls(self):
        return rows.joined([
            rows.begin(0), rows.get(0, A), rows.put(0, A, B), rows.keep(1), rows.commit(0), rows.begin(2),
            rows.get(2, A), rows.replay(rows.add_record(B, 5)), rows.older(3, 1), rows.get(3, B),
            rows.begin(0), rows.add(0, -3, B), rows.save(0), rows.remove(0, A), rows.list_changes(0),
            rows.next_key(0, 0, []), rows.before(0, 1, B), rows.count(0, 9, [], B), rows.back(0, 1),
            rows.count(0, 9, [], B), rows.list_changes(0), rows.commit(0), rows.begin(0), rows.next_key(0, 0, A),
        ])

    def test_what_is_handed_in_stays(self):
        calls = self.calls()
        answers(calls)
        self.assertEqual(calls, self.calls())

    def test_it_is_not_changed_for_a_while_either(self):
        class Watched(list):
            def refuse(self, *given, **named):
                raise AssertionError("what was handed in is changed")

            append = extend = insert = pop = remove = clear = sort = reverse = refuse
            __setitem__ = __delitem__ = __iadd__ = __imul__ = refuse

        self.assertEqual(answers(Watched(self.calls())), answers(self.calls()))

    def test_the_same_twice(self):
        calls = self.calls()
        self.assertEqual(answers(calls), answers(calls))

    def test_a_desk_is_new_each_time(self):
        rows.ask(rows.begin(0), rows.put(0, A, B), rows.commit(0), rows.keep(0), rows.begin(1))
        self.assertEqual(
            rows.ask(rows.begin(0), rows.get(0, A), rows.older(0, 0), rows.drop(1)),
            [rows.DONE, rows.ABSENT, rows.ABSENT, rows.ABSENT],
        )

    def test_what_is_given_back_is_the_callers_own(self):
        calls = self.calls()
        first = answers(calls)
        kept = list(first)
        first.clear()
        self.assertEqual(answers(calls), kept)


class LongLines(unittest.TestCase):
    def test_1200_calls(self):
        steps = [rows.put(0, A, []), rows.add(0, 1, B), rows.next_key(0, 0, A), rows.remove(0, A), rows.get(0, A)]
        told = rows.ask(rows.begin(0), *steps * 239, *[rows.save(0)] * 4)
        self.assertEqual(len(told), 1200)
        first = [rows.DONE, rows.DONE, rows.key_found(B, rows.count_bytes(1)), rows.DONE, rows.ABSENT]
        self.assertEqual(told[1:6], first)
        self.assertEqual(told[-4:], [[1, 0], [2, 0], [3, 0], [4, 0]])
        # 5, 11 and 3 bytes each turn: 210 turns have 3990, so then a put and a remove are done once more.
        self.assertEqual(told[1 + 210 * 5:1 + 211 * 5][:2], [rows.DONE, rows.FULL])

    def test_1200_counts_of_many_keys(self):
        keys = [key_number(number) for number in range(499)]
        state = rows.replay(rows.joined(rows.put_record(key, []) for key in keys))
        told = rows.ask(state, rows.begin(0), *[rows.count(0, 500, [], [255])] * 1198)
        self.assertEqual(told[2:], [[499, 0]] * 1198)

    def test_100_of_list_and_16000_numbers(self):
        puts = [rows.put(0, [number], [7] * 300) for number in range(13)]
        calls = [rows.begin(0), *puts, rows.remove(0, [5] * 33)] + [rows.list_changes(0)] * 100
        rest = 16000 - len(rows.joined(calls))
        calls += [rows.replay([2, 1, 9] * 2000), rows.replay([0] * (rest - 6004))]
        line = rows.joined(calls)
        self.assertEqual(len(line), 16000)
        told = rows.apart(answers(line))
        self.assertEqual([len(answer) for answer in told[15:115]], [2 + 4000] * 100)
        self.assertEqual(told[15][:7], [14, 0, 1, 1, 0, 44, 1])
        self.assertEqual(told[15:115], [told[15]] * 100)
        self.assertEqual(told[115:], [[2000, 0], rows.WRONG])

    def test_many_removed_keys_are_gone_by(self):
        keys = [key_number(number) for number in range(590)]
        state = rows.replay(rows.joined(rows.put_record(key, []) for key in keys))
        removed = [rows.remove(0, key) for key in keys]
        nexts = [rows.next_key(0, 0, []), rows.before(0, 0, [255])] * 300
        told = rows.ask(state, rows.begin(0), *removed, *nexts)
        self.assertEqual(told[592:], [rows.ABSENT] * 600)

    def test_the_same_list_twice(self):
        calls = rows.joined([rows.begin(0)] + [rows.add(0, 1, A), rows.next_key(0, 0, []), rows.before(0, 0, B)] * 399)
        kept = list(calls)
        first = answers(calls)
        self.assertEqual(answers(calls), first)
        self.assertEqual(calls, kept)


if __name__ == "__main__":
    unittest.main()
