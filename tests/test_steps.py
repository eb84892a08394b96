"""Point 7, steps."""

import unittest

from tests.helper import ALL_TOLD, answered, begin, joins, next_step, read, rule, run, steps, text, told, turning_with


class StepsTest(unittest.TestCase):

    def test_none_at_the_beginning(self):
        self.assertEqual(answered(steps()), [0])
        self.assertEqual(answered(begin(), steps()), [0, 0])
        self.assertEqual(answered(rule(b"a", b""), steps()), [0, 0])

    def test_none_after_begin(self):
        calls = [rule(b"", b"x"), run(7), steps(), begin(), steps(), rule(b"", b""), run(2), steps()]
        self.assertEqual(answered(*calls), [0, 0, 7, 0, 0, 0, 0, 2])

    def test_none_after_text(self):
        calls = [rule(b"a", b"b"), text(b"aaa"), run(2), steps(), text(b"aaa"), steps(), run(1), steps(), text(b""), steps()]
        self.assertEqual(answered(*calls), [0, 0, 0, 2, 0, 0, 0, 1, 0, 0])

    def test_several_runs_together(self):
        calls = [rule(b"a", b"b"), text(b"a" * 20), run(3), steps(), run(0), steps(), run(4), run(5), steps()]
        self.assertEqual(answered(*calls), [0, 0, 0, 3, 0, 3, 0, 0, 12])

    def test_steps_on_the_empty_text_at_the_beginning(self):
        self.assertEqual(answered(rule(b"", b""), run(5), run(6), steps()), [0, 0, 0, 11])

    def test_over_before_n_steps(self):
        self.assertEqual(answered(rule(b"a", b"b"), text(b"aaa"), run(100), steps()), [0, 0, 1, 3])
        self.assertEqual(answered(rule(b"a", b"b"), text(b"aaa"), run(100), run(100), steps()), [0, 0, 1, 1, 3])
        self.assertEqual(answered(text(b"aaa"), run(100), steps()), [0, 1, 0])

    def test_the_last_step_counts(self):
        calls = [rule(b"b", b"c", 1), rule(b"a", b"b"), text(b"aaa"), run(100), steps(), run(100), steps()]
        self.assertEqual(answered(*calls), [0, 1, 0, 2, 2, 2, 2])

    def test_after_a_step_that_would_make_the_text_too_long(self):
        calls = [rule(b"a", b"bbb"), text(b"aaa" + b"c" * 8185), run(100), steps(), run(1), steps()]
        self.assertEqual(answered(*calls), [0, 0, -2, 2, -2, 2])
        self.assertEqual(answered(rule(b"", b"x"), run(8000), run(1000), steps()), [0, 0, -2, 8192])

    def test_after_refusals(self):
        calls = [rule(b"a", b"b"), text(b"aaa"), run(2), run(-1), steps(), run(1000001), steps(), text([1] * 8193), steps(),
                 rule(b"a", b"", 2), steps()]
        self.assertEqual(answered(*calls), [0, 0, 0, -1, 2, -1, 2, -1, 2, -1, 2])

    def test_rules_that_are_added(self):
        calls = [rule(b"a", b"b"), text(b"aaa"), run(2), rule(b"b", b"c"), steps(), run(9), steps(), rule(b"c", b"d"), steps()]
        self.assertEqual(answered(*calls), [0, 0, 0, 1, 2, 1, 6, 2, 6])

    def test_round_and_round(self):
        for rules, content in (([(b"", b"")], b""), ([(b"a", b"a")], b"ba"), ([(b"ab", b"ba"), (b"ba", b"ab")], b"ab"),
                               ([(b"s", b"t"), (b"t", b"a"), (b"a", b"bb"), (b"bb", b"c"), (b"c", b"a")], b"s")):
            with self.subTest(rules=rules):
                ahead = [*[rule(*one) for one in rules], text(content)]
                calls = [run(1000000), steps(), run(999999), steps(), run(1), run(1000000), run(7), steps()]
                given = answered(*ahead, *calls)[len(ahead):]
                self.assertEqual(given, [0, 1000000, 0, 1999999, 0, 0, 0, 3000007])

    def test_many_long_runs(self):
        calls = [rule(b"ab", b"ba"), rule(b"ba", b"ab"), text(b"ab"), *[run(1000000)] * 295, run(1), read(2), steps()]
        given = told(*calls)
        self.assertEqual(given[-2:], [[2, *b"ba"], [295000001]])

    def test_more_than_1000000000(self):
        turning = turning_with([(b"", b"", 0)], b"")
        for kept, said in ((999999999, 999999999), (1000000000, 1000000000), (1000000001, 1000000000)):
            turning.steps = kept
            self.assertEqual(turning.tell_steps(), said)
        turning.give_text([])
        for count in range(1001):
            self.assertEqual(turning.tell_steps(), count * 1000000)
            turning.run(1000000)
        self.assertEqual(turning.tell_steps(), 1000000000)
        turning.give_text([])
        self.assertEqual(turning.tell_steps(), 0)

    def test_nothing_is_changed_by_it(self):
        ahead = [rule(b"a", b"bb"), rule(b"b", b"c", 1), text(b"aaa"), run(2)]
        behind = [*ALL_TOLD, joins(), run(2), *ALL_TOLD, next_step()]
        self.assertEqual(told(*ahead, steps(), steps(), *behind)[6:], told(*ahead, *behind)[4:])


if __name__ == "__main__":
    unittest.main()
