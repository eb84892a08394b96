"""Point 1, begin."""

import unittest

from ruleturn.signs import written
from tests.helper import answered, begin, rule, run, text, turning_with


class BeginTest(unittest.TestCase):

    def test_at_the_beginning(self):
        self.assertEqual(answered(begin()), [0])

    def test_no_rules_and_not_over_at_the_beginning(self):
        self.assertEqual(answered(begin(), run(0), run(1)), [0, 0, 1])

    def test_empty_text_at_the_beginning(self):
        # Of the two, only the rule with an empty left side can fit an empty text.
        self.assertEqual(answered(begin(), rule(b"a", b""), rule(b"", b"x", 1), run(1)), [0, 0, 1, 2])

    def test_rules_are_gone_in_mid_line(self):
        given = answered(begin(), rule(b"a", b"b"), rule(b"c", b"d"), begin(), rule(b"x", b"y"), text(b"a"), run(1))
        self.assertEqual(given, [0, 0, 1, 0, 0, 0, 1])

    def test_room_for_all_rules_again(self):
        given = answered(begin(), *[rule(b"a", b"")] * 64, rule(b"a", b""), begin(), *[rule(b"a", b"")] * 64)
        self.assertEqual(given, [0, *range(64), -2, 0, *range(64)])

    def test_text_is_empty_in_mid_line(self):
        self.assertEqual(answered(begin(), text(b"aaa"), begin(), rule(b"a", b""), run(1)), [0, 0, 0, 0, 1])

    def test_not_over_in_mid_line(self):
        for stop, over in ((0, 1), (1, 2)):
            with self.subTest(over=over):
                given = answered(begin(), rule(b"a", b"b", stop), text(b"a"), run(2), begin(), run(0))
                self.assertEqual(given, [0, 0, 0, over, 0, 0])

    def test_all_that_is_kept_is_new(self):
        turning = turning_with([(b"a", b"b", 0), (b"b", b"", 1)], b"aab")
        self.assertEqual(turning.run(9), 2)
        self.assertEqual((turning.text, turning.steps), (written(b"bb"), 3))
        self.assertEqual(turning.begin(), 0)
        self.assertEqual((turning.rules, turning.text, turning.over, turning.steps), ([], "", 0, 0))

    def test_twice_in_a_row(self):
        self.assertEqual(answered(begin(), begin(), run(0)), [0, 0, 0])


if __name__ == "__main__":
    unittest.main()
