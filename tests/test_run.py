"""Point 4, run."""

import unittest

from ruleturn.signs import written
from tests.helper import answered, begin, rule, run, text, turning_with

SMALLEST = -2147483648
LARGEST = 2147483647


class StepTest(unittest.TestCase):

    def check(self, rules, content, count, answer, turned, steps):
        turning = turning_with(rules, content)
        self.assertEqual(turning.run(count), answer)
        self.assertEqual(turning.text, written(turned))
        self.assertEqual(turning.steps, steps)
        return turning

    def test_least_number_first_wherever_it_fits(self):
        rules = [(b"b", b"1", 0), (b"a", b"2", 0)]
        self.check(rules, b"aab", 1, 0, b"aa1", 1)
        self.check(rules, b"aab", 2, 0, b"2a1", 2)

    def test_first_of_two_that_fit_at_the_same_place(self):
        self.check([(b"ab", b"1", 0), (b"a", b"2", 0)], b"ab", 1, 0, b"1", 1)
        self.check([(b"a", b"2", 0), (b"ab", b"1", 0)], b"ab", 1, 0, b"2b", 1)

    def test_first_of_two_with_the_same_left_side(self):
        self.check([(b"a", b"1", 0), (b"a", b"2", 0)], b"aa", 2, 0, b"11", 2)

    def test_least_place(self):
        self.check([(b"aa", b"b", 0)], b"caaa", 1, 0, b"cba", 1)
        self.check([(b"ab", b"", 0)], b"xabab", 1, 0, b"xab", 1)

    def test_fits_at_the_very_end(self):
        self.check([(b"yz", b"!", 0)], b"xyz", 1, 0, b"x!", 1)

    def test_left_side_longer_than_the_text(self):
        self.check([(b"aaa", b"", 0)], b"aa", 1, 1, b"aa", 0)

    def test_all_begins_anew_after_each_step(self):
        # Rule 1 makes what rule 0 then takes, before where rule 1 fits again.
        self.check([(b"xb", b"y", 0), (b"a", b"b", 0)], b"xaa", 2, 0, b"ya", 2)
        self.check([(b"bx", b"y", 0), (b"a", b"b", 0)], b"aax", 3, 0, b"by", 3)

    def test_what_a_step_makes_with_what_stands_before_it(self):
        # The taken rule fits anew, further ahead than where it was taken.
        self.check([(b"aab", b"a", 0)], b"aaaabbb", 9, 1, b"a", 3)

    def test_what_a_step_makes_by_taking_away(self):
        self.check([(b"ab", b"", 0)], b"aaabbb", 9, 1, b"", 3)
        self.check([(b"()", b"", 0), (b"x", b"", 0)], b"((x))x", 9, 1, b"", 4)

    def test_empty_left_side_goes_to_the_beginning(self):
        self.check([(b"", b"x", 0)], b"ab", 2, 0, b"xxab", 2)
        self.check([(b"", b"xy", 1)], b"ab", 2, 2, b"xyab", 1)

    def test_empty_left_side_on_an_empty_text(self):
        self.check([(b"", b"x", 0)], b"", 3, 0, b"xxx", 3)
        self.check([(b"", b"", 1)], b"", 3, 2, b"", 1)

    def test_rules_behind_an_empty_left_side_are_never_taken(self):
        self.check([(b"", b"x", 0), (b"a", b"b", 1)], b"a", 3, 0, b"xxxa", 3)

    def test_empty_left_side_behind_others(self):
        self.check([(b"xa", b"", 0), (b"", b"x", 0)], b"aab", 5, 0, b"xb", 5)

    def test_empty_right_side(self):
        self.check([(b"a", b"", 0)], b"banana", 9, 1, b"bnn", 3)

    def test_a_right_side_may_hold_its_left_side(self):
        self.check([(b"a", b"aa", 0)], b"ba", 3, 0, b"baaaa", 3)

    def test_zero_and_high_bytes(self):
        self.check([([0], [255, 0x80], 0), ([255, 0x80, 255], [10], 0)], [7, 0, 0], 9, 1, [7, 10, 0x80], 3)

    def test_a_mark_that_wanders(self):
        rules = [(b"Xab", b"bXa", 0), (b"Xba", b"aXb", 0), (b"Xaa", b"aXa", 0), (b"Xbb", b"bXb", 0),
                 (b"Xa", b"Ya", 0), (b"Xb", b"Yb", 0), (b"aY", b"Y", 1)]
        self.check(rules, b"Xabb", 9, 1, b"bbYa", 3)

    def test_unary_from_binary(self):
        rules = [(b"|0", b"0||", 0), (b"1", b"0|", 0), (b"0", b"", 0)]
        turning = turning_with(rules, b"11010")
        self.assertEqual(turning.run(1000000), 1)
        self.assertEqual(turning.text, written(b"|" * 26))


class CountTest(unittest.TestCase):

    def test_n_of_0(self):
        self.assertEqual(answered(begin(), rule(b"a", b"b"), text(b"a"), run(0), run(1), run(1)), [0, 0, 0, 0, 0, 1])
        self.assertEqual(answered(begin(), run(0)), [0, 0])

    def test_n_of_0_where_the_run_is_over(self):
        self.assertEqual(answered(begin(), run(1), run(0)), [0, 1, 1])
        self.assertEqual(answered(begin(), rule(b"", b"", 1), run(1), run(0)), [0, 0, 2, 2])

    def test_n_of_1000000(self):
        turning = turning_with([(b"ab", b"ba", 0), (b"ba", b"ab", 0)], b"ab")
        self.assertEqual(turning.run(1000000), 0)
        self.assertEqual((turning.text, turning.steps), (written(b"ab"), 1000000))
        self.assertEqual(turning.run(999999), 0)
        self.assertEqual((turning.text, turning.steps), (written(b"ba"), 1999999))

    def test_nearly_a_million_steps_that_never_come_back(self):
        # A counter of 24 digits: no text comes twice. Counting one up takes two steps,
        # and one more for each 1 at the end: 3 * k up to k, less one for each 1 in k.
        rules = [(b"0c", b"1", 0), (b"1c", b"c0", 0), (b"E", b"cE", 0)]
        turning = turning_with(rules, b"0" * 24 + b"E")
        steps = 3 * 333333 - bin(333333).count("1")
        self.assertEqual(turning.run(steps), 0)
        self.assertEqual((turning.text, turning.steps), (written(f"{333333:024b}E".encode()), steps))

    def test_n_outside(self):
        for count in (-1, 1000001, SMALLEST, LARGEST):
            with self.subTest(count=count):
                turning = turning_with([(b"a", b"b", 0)], b"aaa")
                turning.run(1)
                self.assertEqual(turning.run(count), -1)
                self.assertEqual((turning.text, turning.over, turning.steps), (written(b"baa"), 0, 1))
                self.assertEqual(len(turning.rules), 1)
                calls = [begin(), rule(b"a", b"b"), text(b"a"), run(count), run(0), run(1), run(1), run(count), run(0)]
                self.assertEqual(answered(*calls), [0, 0, 0, -1, 0, 0, 1, -1, 1])

    def test_n_outside_where_no_step_can_be_taken(self):
        full = b"a" * 8192
        self.assertEqual(answered(begin(), rule(b"", b"a"), text(full), run(1000001), run(1)), [0, 0, 0, -1, -2])

    def test_steps_add_up_over_runs(self):
        turning = turning_with([(b"a", b"b", 0)], b"a" * 10)
        self.assertEqual([turning.run(3), turning.run(0), turning.run(4)], [0, 0, 0])
        self.assertEqual((turning.text, turning.steps), (written(b"b" * 7 + b"aaa"), 7))


class OverTest(unittest.TestCase):

    def test_n_steps_exactly_is_not_over(self):
        calls = [begin(), rule(b"a", b"b"), text(b"aaa"), run(3), run(0), run(1), run(0)]
        self.assertEqual(answered(*calls), [0, 0, 0, 0, 0, 1, 1])

    def test_one_step_more_is_over(self):
        self.assertEqual(answered(begin(), rule(b"a", b"b"), text(b"aaa"), run(4)), [0, 0, 0, 1])

    def test_no_rules(self):
        self.assertEqual(answered(begin(), text(b"aaa"), run(1)), [0, 0, 1])

    def test_over_by_1_stays_so(self):
        calls = [begin(), rule(b"a", b"b"), text(b"a"), run(5), run(5), run(0), run(1000000)]
        self.assertEqual(answered(*calls), [0, 0, 0, 1, 1, 1, 1])

    def test_over_by_2_stays_so(self):
        calls = [begin(), rule(b"a", b"b", 1), text(b"aa"), run(1), run(1), run(0), run(1000000)]
        self.assertEqual(answered(*calls), [0, 0, 0, 2, 2, 2, 2])
        turning = turning_with([(b"a", b"b", 1)], b"aa")
        self.assertEqual([turning.run(5), turning.run(5)], [2, 2])
        self.assertEqual((turning.text, turning.steps), (written(b"ba"), 1))

    def test_last_rule_in_mid_run(self):
        turning = turning_with([(b"a", b"b", 0), (b"b", b"c", 1)], b"aab")
        self.assertEqual(turning.run(100), 2)
        self.assertEqual((turning.text, turning.steps), (written(b"cbb"), 3))

    def test_last_rule_that_leaves_the_text_as_it_was(self):
        turning = turning_with([(b"a", b"a", 1)], b"a")
        self.assertEqual(turning.run(1000000), 2)
        self.assertEqual((turning.text, turning.steps), (written(b"a"), 1))

    def test_last_rule_that_brings_an_earlier_text_back(self):
        turning = turning_with([(b"bb", b"ca", 1), (b"a", b"b", 0), (b"cb", b"bb", 0)], b"ca")
        self.assertEqual(turning.run(1000000), 2)
        self.assertEqual((turning.text, turning.steps), (written(b"ca"), 3))


class LengthTest(unittest.TestCase):

    def test_a_step_to_just_8192_bytes(self):
        turning = turning_with([(b"a", b"bb", 0)], b"a" + b"c" * 8190)
        self.assertEqual(turning.run(1), 0)
        self.assertEqual((turning.text, turning.steps), (written(b"bb" + b"c" * 8190), 1))
        self.assertEqual(answered(begin(), rule(b"", b"x", 1), text(b"c" * 8191), run(1)), [0, 0, 0, 2])

    def test_a_step_that_would_make_it_longer(self):
        turning = turning_with([(b"a", b"bb", 0)], b"c" * 8191 + b"a")
        self.assertEqual(turning.run(1), -2)
        self.assertEqual((turning.text, turning.over, turning.steps), (written(b"c" * 8191 + b"a"), 0, 0))

    def test_longer_by_31_bytes(self):
        calls = [begin(), rule(b"a", b"b" * 32), text(b"a" * 8161), run(1), text(b"a" * 8162), run(1)]
        self.assertEqual(answered(*calls), [0, 0, 0, 0, 0, -2])

    def test_the_steps_before_it_stay_taken(self):
        turning = turning_with([(b"a", b"bbb", 0)], b"aaa" + b"c" * 8185)
        self.assertEqual(turning.run(100), -2)
        self.assertEqual((turning.text, turning.over, turning.steps), (written(b"bbbbbba" + b"c" * 8185), 0, 2))

    def test_by_a_rule_that_is_the_last(self):
        turning = turning_with([(b"a", b"bb", 1)], b"a" * 8192)
        self.assertEqual(turning.run(1), -2)
        self.assertEqual((turning.text, turning.over, turning.steps), (written(b"a" * 8192), 0, 0))
        self.assertEqual(turning.run(0), 0)

    def test_no_other_rule_is_taken_instead(self):
        turning = turning_with([(b"a", b"bb", 0), (b"a", b"", 0), (b"c", b"", 0)], b"a" + b"c" * 8191)
        self.assertEqual(turning.run(9), -2)
        self.assertEqual((turning.text, turning.steps), (written(b"a" + b"c" * 8191), 0))

    def test_steps_that_do_not_lengthen_are_taken_at_8192_bytes(self):
        turning = turning_with([(b"a", b"b", 0), (b"bb", b"c", 0)], b"a" * 8192)
        self.assertEqual(turning.run(8193), 0)
        self.assertEqual((turning.text, turning.steps), (written(b"c" + b"b" * 8190), 8193))

    def test_run_after_it(self):
        calls = [begin(), rule(b"", b"a"), text(b"c" * 8190), run(1000000), run(0), run(1), run(1000000), run(-1), run(0)]
        self.assertEqual(answered(*calls), [0, 0, 0, -2, 0, -2, -2, -1, 0])

    def test_another_text_after_it(self):
        calls = [begin(), rule(b"", b"a"), text(b"c" * 8192), run(1), text(b"c" * 8191), run(1), run(1)]
        self.assertEqual(answered(*calls), [0, 0, 0, -2, 0, 0, -2])

    def test_filling_an_empty_text(self):
        turning = turning_with([(b"", b"a", 0)], b"")
        self.assertEqual(turning.run(8192), 0)
        self.assertEqual(turning.run(1), -2)
        self.assertEqual((turning.text, turning.over, turning.steps), (written(b"a" * 8192), 0, 8192))


if __name__ == "__main__":
    unittest.main()
