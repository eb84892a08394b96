"""Point 5, read."""

import unittest

from ruleturn.signs import read_back, written
from tests.helper import ALL_TOLD, begin, joins, next_step, read, rule, run, steps, text, told

SMALLEST = -2147483648
LARGEST = 2147483647


class ReadTest(unittest.TestCase):

    def test_empty_text(self):
        for most in (SMALLEST, -1, 0, 1, 8192, 8193, LARGEST):
            with self.subTest(most=most):
                self.assertEqual(told(read(most)), [[0]])
                self.assertEqual(told(begin(), read(most)), [[0], [0]])
                self.assertEqual(told(text(b"ab"), text(b""), read(most)), [[0], [0], [0]])

    def test_most_less_than_the_length(self):
        self.assertEqual(told(text(b"abc"), read(1), read(2)), [[0], [3, 97], [3, 97, 98]])

    def test_most_just_the_length(self):
        self.assertEqual(told(text(b"abc"), read(3)), [[0], [3, 97, 98, 99]])
        self.assertEqual(told(text(b"a"), read(1)), [[0], [1, 97]])

    def test_most_more_than_the_length(self):
        for most in (4, 5, 8191, 8192):
            with self.subTest(most=most):
                self.assertEqual(told(text(b"abc"), read(most)), [[0], [3, 97, 98, 99]])

    def test_most_outside(self):
        for most in (0, -1, -2, 8193, 8194, SMALLEST, LARGEST):
            with self.subTest(most=most):
                self.assertEqual(told(text(b"abc"), read(most)), [[0], [3]])
                self.assertEqual(told(text([7] * 8192), read(most)), [[0], [8192]])

    def test_text_of_8192_bytes(self):
        content = [(place * 7 + place // 256) % 256 for place in range(8192)]
        for most in (1, 2, 4096, 8191, 8192):
            with self.subTest(most=most):
                self.assertEqual(told(text(content), read(most)), [[0], [8192] + content[:most]])

    def test_every_byte(self):
        content = list(range(256)) + list(reversed(range(256)))
        self.assertEqual(told(text(content), read(8192)), [[0], [512] + content])
        self.assertEqual(told(text([0, 255, 0, 0]), read(3)), [[0], [4, 0, 255, 0]])

    def test_after_a_run(self):
        given = told(rule(b"ab", b""), rule(b"c", b"dd"), text(b"aabbc"), run(1), read(9), run(2), read(9), run(9), read(1))
        self.assertEqual(given, [[0], [1], [0], [0], [3, *b"abc"], [0], [2, *b"dd"], [1], [2, *b"d"]])

    def test_after_a_run_that_was_over_by_the_last(self):
        self.assertEqual(told(rule(b"b", b"", 1), text(b"abb"), run(9), read(9)), [[0], [0], [2], [2, *b"ab"]])

    def test_after_a_run_that_would_make_it_too_long(self):
        content = b"aaa" + b"c" * 8185
        given = told(rule(b"a", b"bbb"), text(content), run(100), read(8192), run(1), read(8))
        self.assertEqual(given, [[0], [0], [-2], [8192, *b"bbbbbba", *b"c" * 8185], [-2], [8192, *b"bbbbbbac"]])

    def test_after_refusals(self):
        given = told(text(b"xyz"), text([1] * 8193), read(9), run(-1), read(9), rule(b"x", b"", 2), read(9))
        self.assertEqual(given, [[0], [-1], [3, *b"xyz"], [-1], [3, *b"xyz"], [-1], [3, *b"xyz"]])

    def test_after_begin_in_mid_line(self):
        self.assertEqual(told(text(b"abc"), begin(), read(5)), [[0], [0], [0]])

    def test_nothing_is_changed_by_it(self):
        ahead = [rule(b"a", b"bb"), rule(b"b", b"c", 1), text(b"aaca"), run(2)]
        for most in (SMALLEST, -1, 0, 1, 3, 8192, 8193):
            with self.subTest(most=most):
                behind = [*ALL_TOLD, run(2), *ALL_TOLD]
                self.assertEqual(told(*ahead, *behind)[4:], told(*ahead, read(most), read(most), *behind)[6:])

    def test_asked_again_it_tells_the_same(self):
        self.assertEqual(told(text(b"ab"), read(1), read(2), read(0), read(2)), [[0], [2, 97], [2, 97, 98], [2], [2, 97, 98]])

    def test_what_is_told_is_not_what_is_kept(self):
        first = told(text(b"abc"), read(3))
        first[1].clear()
        self.assertEqual(told(text(b"abc"), read(3))[1], [3, *b"abc"])

    def test_beside_calls_that_tell_one_number(self):
        given = told(text(b"ab"), next_step(), read(2), steps(), read(0), joins())
        self.assertEqual(given, [[0], [-1], [2, 97, 98], [0], [2], [1]])


class ReadBackTest(unittest.TestCase):

    def test_what_was_written_is_read_back(self):
        self.assertEqual(read_back(""), [])
        for value in range(256):
            self.assertEqual(read_back(written([value])), [value])
        self.assertEqual(read_back(written([1, 0, 255, 16])), [1, 0, 255, 16])


if __name__ == "__main__":
    unittest.main()
