"""How calls stand in the list, and how answers stand in the list that is given back."""

import contextlib
import io
import unittest

from ruleturn.desk import UnknownCall, answers
from ruleturn.reading import BrokenRow
from tests.helper import begin, joins, next_step, read, rule, run, steps, text

EVERY_CALL = begin() + rule(b"ab", b"b") + text(b"aab") + run(1) + read(9) + next_step() + steps() + joins()
EVERY_ANSWER = [1, 0, 1, 0, 1, 0, 1, 0, 3, 2, 97, 98, 1, 0, 1, 1, 1, 1]


class InterfaceTest(unittest.TestCase):

    def test_empty_list(self):
        self.assertEqual(answers([]), [])

    def test_calls_written_out_number_by_number(self):
        calls = [0, 1, 0, 2, 97, 98, 1, 99, 1, 1, 0, 1, 100, 2, 3, 97, 98, 97, 3, 5]
        self.assertEqual(answers(calls), [1, 0, 1, 0, 1, 1, 1, 0, 1, 2])

    def test_all_calls_written_out_number_by_number(self):
        calls = [0, 1, 0, 2, 97, 98, 1, 98, 2, 3, 97, 97, 98, 3, 1, 4, 9, 5, 6, 7]
        self.assertEqual(calls, EVERY_CALL)
        self.assertEqual(answers(calls), EVERY_ANSWER)

    def test_a_line_may_begin_with_any_call(self):
        for calls, given in (([3, 1], [1, 1]), ([4, 5], [1, 0]), ([5], [1, -1]), ([6], [1, 0]), ([7], [1, 1])):
            with self.subTest(calls=calls):
                self.assertEqual(answers(calls), given)
                self.assertEqual(answers(begin() + calls), [1, 0] + given)

    def test_numbers_of_what_is_told_stand_without_a_count_of_their_own(self):
        self.assertEqual(answers(text([1, 2]) + read(1) + read(2) + read(3) + read(0) + read(8193)),
                         [1, 0, 2, 2, 1, 3, 2, 1, 2, 3, 2, 1, 2, 1, 2, 1, 2])

    def test_each_answer_has_its_count_before_it(self):
        calls = begin() + rule(b"a", b"b", 2) + rule(b"a", b"b") + text(b"a") + run(-1) + run(1) + run(1)
        self.assertEqual(answers(calls), [1, 0, 1, -1, 1, 0, 1, 0, 1, -1, 1, 0, 1, 1])

    def test_numbers_of_rows_are_not_taken_for_calls(self):
        calls = begin() + rule([3, 3, 0], [0, 1, 2], 1) + text([2, 3, 3, 0, 9]) + run(1)
        self.assertEqual(answers(calls), [1, 0, 1, 0, 1, 0, 1, 2])

    def test_answers_are_lists_of_plain_whole_numbers(self):
        given = answers(EVERY_CALL + rule(b"a", b"b", 1) + joins() + next_step() + run(3) + next_step() + steps())
        self.assertIs(type(given), list)
        self.assertEqual({type(number) for number in given}, {int})

    def test_list_is_afterwards_as_it_was(self):
        calls = EVERY_CALL + rule(b"a", b"bb") + text(b"aaa") + run(3) + EVERY_CALL + run(1)
        kept = list(calls)
        answers(calls)
        self.assertEqual(calls, kept)

    def test_list_is_not_changed_for_a_while_either(self):
        class Untouchable(list):
            def refuse(self, *given, **named):
                raise AssertionError("what is handed in is not to be changed")
            append = extend = insert = pop = remove = clear = sort = reverse = refuse
            __setitem__ = __delitem__ = __iadd__ = __imul__ = refuse

        self.assertEqual(answers(Untouchable(EVERY_CALL + run(9))), EVERY_ANSWER + [1, 1])

    def test_nothing_is_kept_from_one_time_to_the_next(self):
        calls = begin() + rule(b"a", b"b", 1) + text(b"aa") + run(2) + rule(b"b", b"c")
        first = answers(calls)
        self.assertEqual(answers(calls), first)
        first.append(7)
        self.assertEqual(answers(calls), first[:-1])
        # Nor without begin: the object is new whenever a list begins.
        self.assertEqual(answers(rule(b"x", b"y")), [1, 0])
        self.assertEqual(answers(run(1)), [1, 1])
        self.assertEqual(answers(read(9) + next_step() + steps() + joins()), [1, 0, 1, -1, 1, 0, 1, 1])
        self.assertEqual(answers(EVERY_CALL), EVERY_ANSWER)
        self.assertEqual(answers(EVERY_CALL), EVERY_ANSWER)

    def test_answers_do_not_share_a_list(self):
        self.assertIsNot(answers([]), answers([]))

    def test_prints_nothing(self):
        out, err = io.StringIO(), io.StringIO()
        with contextlib.redirect_stdout(out), contextlib.redirect_stderr(err):
            answers(EVERY_CALL)
        self.assertEqual((out.getvalue(), err.getvalue()), ("", ""))

    def test_every_byte_is_told_from_every_other(self):
        for value in range(256):
            others = [other for other in range(256) if other != value]
            with self.subTest(value=value):
                calls = begin() + rule([value], [], 1) + text(others) + run(1) + text(others + [value]) + run(1)
                self.assertEqual(answers(calls), [1, 0, 1, 0, 1, 0, 1, 1, 1, 0, 1, 2])

    def test_what_stands_halfway_through_two_bytes_does_not_fit(self):
        # 0x12 0x34 holds 0x23 only if halves of bytes are put together.
        self.assertEqual(answers(begin() + rule([0x23], [], 1) + text([0x12, 0x34]) + run(1)), [1, 0, 1, 0, 1, 0, 1, 1])

    def test_malformed_lists_fail(self):
        for calls in ([8], [-1], [0, 99]):
            with self.subTest(calls=calls), self.assertRaises(UnknownCall):
                answers(calls)
        for calls in ([2, -1], [2, 3, 1, 2], [1, 0, -2, 0], [1, 0, 0, 5, 1]):
            with self.subTest(calls=calls), self.assertRaises(BrokenRow):
                answers(calls)
        for calls in ([3], [2], [1], [1, 0, 0], [4]):
            with self.subTest(calls=calls), self.assertRaises(IndexError):
                answers(calls)


class LargeListTest(unittest.TestCase):

    def test_three_hundred_calls(self):
        calls = begin() + rule(b"", b"") + run(1000000) * 298
        self.assertEqual(answers(calls), [1, 0, 1, 0] + [1, 0] * 298)

    def test_three_hundred_calls_that_tell_the_whole_text(self):
        content = [place % 256 for place in range(8192)]
        self.assertEqual(answers(text(content) + read(8192) * 299), [1, 0] + ([8193, 8192] + content) * 299)

    def test_three_hundred_begins(self):
        self.assertEqual(answers(begin() * 300), [1, 0] * 300)

    def test_thirty_thousand_numbers(self):
        calls = begin()
        for number in range(64):
            calls = calls + rule([number] * 32, [number + 1] * 32)
        calls = calls + (text([0] * 8192) + run(1000000)) * 3
        spare = 30000 - len(calls) - 2 - 2
        calls = calls + text([63] * spare) + run(1000000)
        self.assertEqual(len(calls), 30000)
        expected = [0] + list(range(64)) + [0, 1] * 4
        self.assertEqual(answers(calls), [number for one in expected for number in (1, one)])

    def test_three_hundred_calls_in_thirty_thousand_numbers(self):
        calls = begin() + rule(b"ab", b"ba") + rule(b"c", b"")
        pairs = 148
        size = (30000 - len(calls) - 1 - 4 * pairs) // pairs
        content = (b"ab" * size)[:size - 1] + b"c"
        calls = calls + (text(content) + run(1000)) * pairs
        spare = 30000 - len(calls) - 2
        calls = calls + text([7] * spare)
        self.assertEqual(len(calls), 30000)
        self.assertEqual(answers(calls), [1, 0, 1, 0, 1, 1] + [1, 0, 1, 0] * pairs + [1, 0])


if __name__ == "__main__":
    unittest.main()
