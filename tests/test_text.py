"""Point 3, text."""

import unittest

from ruleturn.signs import written
from tests.helper import answered, begin, rule, run, text, turning_with


class TextTest(unittest.TestCase):

    def test_this_is_the_text(self):
        given = answered(begin(), rule(b"bc", b"", 1), text(b"abc"), run(1), text(b"acb"), run(1))
        self.assertEqual(given, [0, 0, 0, 2, 0, 1])

    def test_it_takes_the_place_of_the_text_before(self):
        self.assertEqual(answered(begin(), rule(b"a", b"", 1), text(b"a"), text(b"b"), run(1)), [0, 0, 0, 0, 1])

    def test_empty_text(self):
        self.assertEqual(answered(begin(), rule(b"a", b""), text(b"a"), text(b""), run(1)), [0, 0, 0, 0, 1])

    def test_text_of_8192_bytes(self):
        content = b"a" * 8191 + b"b"
        self.assertEqual(answered(begin(), rule(b"b", b"c", 1), text(content), run(1)), [0, 0, 0, 2])
        turning = turning_with([], content)
        self.assertEqual(turning.text, written(content))

    def test_text_of_8193_bytes(self):
        given = answered(begin(), rule(b"a", b"", 1), text(b"a"), text(b"b" * 8193), run(1))
        self.assertEqual(given, [0, 0, 0, -1, 2])

    def test_after_a_refusal_all_is_as_it_was(self):
        turning = turning_with([(b"a", b"b", 0), (b"b", b"", 1)], b"aa")
        turning.run(9)
        self.assertEqual(turning.give_text(b"x" * 8193), -1)
        self.assertEqual((turning.text, turning.over, turning.steps), (written(b"b"), 2, 3))
        self.assertEqual(len(turning.rules), 2)

    def test_not_over_after_it(self):
        for stop, over in ((0, 1), (1, 2)):
            with self.subTest(over=over):
                calls = [begin(), rule(b"a", b"b", stop), text(b"a"), run(2), text(b"a"), run(0), run(2)]
                self.assertEqual(answered(*calls), [0, 0, 0, over, 0, 0, over])

    def test_no_steps_after_it_and_the_rules_stay(self):
        turning = turning_with([(b"a", b"b", 0)], b"aaaa")
        turning.run(3)
        self.assertEqual(turning.steps, 3)
        self.assertEqual(turning.give_text(b"aa"), 0)
        self.assertEqual((turning.text, turning.over, turning.steps), (written(b"aa"), 0, 0))
        self.assertEqual(len(turning.rules), 1)


if __name__ == "__main__":
    unittest.main()
