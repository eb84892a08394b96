"""Point 2, rule."""

import unittest

from ruleturn.signs import written
from tests.helper import answered, begin, rule, run, text, turning_with

SMALLEST = -2147483648
LARGEST = 2147483647


class RuleTest(unittest.TestCase):

    def test_numbers_from_0_on(self):
        self.assertEqual(answered(begin(), *[rule(b"a", b"b")] * 64), [0, *range(64)])

    def test_empty_sides(self):
        turning = turning_with([(b"", b"", 0), (b"", b"x", 0), (b"x", b"", 0)], b"")
        self.assertEqual([(one.left, one.right) for one in turning.rules],
                         [("", ""), ("", written(b"x")), (written(b"x"), "")])

    def test_sides_of_32_bytes(self):
        left, right = bytes(range(32)), bytes(range(224, 256))
        self.assertEqual(answered(begin(), rule(left, right, 1), text(b"-" + left), run(1)), [0, 0, 0, 2])
        # All 32 bytes count, the last one too.
        self.assertEqual(answered(begin(), rule(left, right, 1), text(left[:31] + b"-"), run(1)), [0, 0, 0, 1])
        turning = turning_with([(left, right, 0)], left + b"-")
        turning.run(1)
        self.assertEqual(turning.text, written(right + b"-"))

    def test_sides_of_33_bytes(self):
        given = answered(begin(), rule(b"a" * 33, b""), rule(b"", b"a" * 33), rule(b"a" * 33, b"a" * 33), rule(b"a", b""))
        self.assertEqual(given, [0, -1, -1, -1, 0])

    def test_stop_says_whether_it_is_the_last(self):
        self.assertEqual(answered(begin(), rule(b"a", b"b", 0), text(b"aa"), run(1), run(5)), [0, 0, 0, 0, 1])
        self.assertEqual(answered(begin(), rule(b"a", b"b", 1), text(b"aa"), run(1), run(5)), [0, 0, 0, 2, 2])

    def test_stop_neither_0_nor_1(self):
        for stop in (-1, 2, 3, 256, SMALLEST, LARGEST):
            with self.subTest(stop=stop):
                self.assertEqual(answered(begin(), rule(b"a", b"b", stop), rule(b"a", b"b")), [0, -1, 0])

    def test_no_65th_rule(self):
        given = answered(begin(), *[rule(b"a", b"b")] * 64, rule(b"c", b"d"), rule(b"", b"", 1))
        self.assertEqual(given, [0, *range(64), -2, -2])

    def test_both_refusals_at_once(self):
        full = [rule(b"a", b"b")] * 64
        given = answered(begin(), *full, rule(b"c", b"d", 2), rule(b"c" * 33, b"d"), rule(b"c", b"d" * 33), rule(b"c", b"d"))
        self.assertEqual(given[65:], [-1, -1, -1, -2])

    def test_a_refused_rule_is_not_there(self):
        self.assertEqual(answered(begin(), rule(b"a", b"b", 2), text(b"a"), run(1)), [0, -1, 0, 1])
        full = [rule(b"x", b"y")] * 64
        self.assertEqual(answered(begin(), *full, rule(b"a", b"b"), text(b"a"), run(1))[65:], [-2, 0, 1])

    def test_after_a_refusal_all_is_as_it_was(self):
        turning = turning_with([(b"a", b"b", 0)], b"aaa")
        turning.run(2)
        rules = list(turning.rules)
        for left, stop in ((b"b", 2), (b"b" * 33, 0)):
            self.assertEqual(turning.add_rule(left, b"c", stop), -1)
            self.assertEqual(turning.rules, rules)
            self.assertEqual((turning.text, turning.over, turning.steps), (written(b"bba"), 0, 2))
        for number in range(1, 64):
            self.assertEqual(turning.add_rule(b"x", b"", 0), number)
        rules = list(turning.rules)
        self.assertEqual(turning.add_rule(b"b", b"c", 0), -2)
        self.assertEqual(turning.rules, rules)
        self.assertEqual((turning.text, turning.over, turning.steps), (written(b"bba"), 0, 2))

    def test_text_and_run_stay(self):
        turning = turning_with([(b"a", b"b", 0)], b"aaa")
        turning.run(2)
        self.assertEqual(turning.add_rule(b"b", b"c", 0), 1)
        self.assertEqual((turning.text, turning.over, turning.steps), (written(b"bba"), 0, 2))

    def test_a_rule_that_comes_in_mid_run_is_taken(self):
        given = answered(begin(), rule(b"a", b"b"), text(b"aa"), run(2), rule(b"bb", b"", 1), run(1))
        self.assertEqual(given, [0, 0, 0, 0, 1, 2])

    def test_what_is_over_stays_over(self):
        for stop, over in ((0, 1), (1, 2)):
            with self.subTest(over=over):
                given = answered(begin(), rule(b"a", b"b", stop), text(b"a"), run(2), rule(b"b", b"c"), run(0), run(9))
                self.assertEqual(given, [0, 0, 0, over, 1, over, over])
                turning = turning_with([(b"a", b"b", stop)], b"a")
                turning.run(2)
                turning.add_rule(b"b", b"c", 0)
                turning.run(9)
                self.assertEqual((turning.text, turning.over, turning.steps), (written(b"b"), over, 1))

    def test_refused_where_the_run_was_over(self):
        given = answered(begin(), rule(b"a", b"b", 1), text(b"a"), run(1), rule(b"b", b"c", 5), run(1))
        self.assertEqual(given, [0, 0, 0, 2, -1, 2])


if __name__ == "__main__":
    unittest.main()
