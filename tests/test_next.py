"""Point 6, next."""

import unittest

from tests.helper import ALL_TOLD, answered, begin, joins, next_step, read, rule, run, steps, text, told


def told_next(rules, content):
    return answered(*[rule(*one) for one in rules], text(content), next_step())[-1]


class NextTest(unittest.TestCase):

    def test_rule_0_at_place_0(self):
        self.assertEqual(told_next([(b"a", b"b")], b"abc"), 0)

    def test_place(self):
        self.assertEqual(told_next([(b"c", b"")], b"abc"), 2)
        self.assertEqual(told_next([(b"bc", b"")], b"abc"), 1)

    def test_least_place(self):
        self.assertEqual(told_next([(b"aa", b"b")], b"caaaa"), 1)
        self.assertEqual(told_next([(b"ab", b"")], b"xxabab"), 2)

    def test_rule_number(self):
        self.assertEqual(told_next([(b"x", b""), (b"a", b"")], b"ba"), 16384 + 1)
        self.assertEqual(told_next([(b"x", b""), (b"y", b""), (b"a", b"")], b"ba"), 2 * 16384 + 1)

    def test_least_number_wherever_it_fits(self):
        self.assertEqual(told_next([(b"c", b""), (b"a", b"")], b"aac"), 2)
        self.assertEqual(told_next([(b"a", b""), (b"c", b"")], b"caa"), 1)
        self.assertEqual(told_next([(b"a", b"1"), (b"a", b"2")], b"ba"), 1)
        self.assertEqual(told_next([(b"x", b""), (b"ab", b""), (b"a", b"")], b"aab"), 16384 + 1)

    def test_rule_that_is_the_last(self):
        self.assertEqual(told_next([(b"x", b"", 1), (b"a", b"", 1), (b"b", b"")], b"ba"), 16384 + 1)

    def test_empty_left_side(self):
        self.assertEqual(told_next([(b"", b"x")], b"abc"), 0)
        self.assertEqual(told_next([(b"x", b""), (b"", b"x")], b"abc"), 16384)
        self.assertEqual(told_next([(b"c", b""), (b"", b"x")], b"abc"), 2)

    def test_empty_left_side_on_an_empty_text(self):
        self.assertEqual(told_next([(b"", b"")], b""), 0)
        self.assertEqual(told_next([(b"x", b""), (b"", b"", 1)], b""), 16384)
        self.assertEqual(answered(rule(b"", b"x"), next_step()), [0, 0])

    def test_greatest_rule_number_and_far_places(self):
        rules = [(b"x", b"")] * 63 + [(b"ab", b"")]
        self.assertEqual(told_next(rules, b"c" * 8190 + b"ab"), 63 * 16384 + 8190)
        rules = [(b"x", b"")] * 63 + [(b"a", b"")]
        self.assertEqual(told_next(rules, b"c" * 8191 + b"a"), 63 * 16384 + 8191)
        self.assertEqual(told_next(rules, b"a"), 63 * 16384)

    def test_bytes_0_and_255(self):
        self.assertEqual(told_next([([255, 0], []), ([0, 255], [])], [0, 0, 255]), 16384 + 1)

    def test_no_rule_fits(self):
        self.assertEqual(answered(next_step()), [-1])
        self.assertEqual(answered(begin(), next_step()), [0, -1])
        self.assertEqual(told_next([], b"abc"), -1)
        self.assertEqual(told_next([(b"x", b""), (b"aa", b"")], b"abc"), -1)
        self.assertEqual(told_next([(b"aaa", b"")], b"aa"), -1)
        self.assertEqual(told_next([(b"a", b"")], b""), -1)

    def test_not_over_by_being_asked(self):
        calls = [rule(b"a", b"b"), text(b"xy"), next_step(), run(0), rule(b"y", b"", 1), next_step(), run(1), run(0)]
        self.assertEqual(answered(*calls), [0, 0, -1, 0, 1, 16384 + 1, 2, 2])

    def test_over_by_1_though_a_rule_fits(self):
        calls = [rule(b"a", b"b"), text(b"xy"), run(1), rule(b"y", b""), next_step(), text(b"xy"), next_step()]
        self.assertEqual(answered(*calls), [0, 0, 1, 1, -1, 0, 16384 + 1])

    def test_over_by_2_though_a_rule_fits(self):
        calls = [rule(b"a", b"b", 1), text(b"aa"), next_step(), run(1), next_step(), text(b"ba"), next_step()]
        self.assertEqual(answered(*calls), [0, 0, 0, 2, -1, 0, 1])

    def test_where_n_steps_were_just_enough(self):
        calls = [rule(b"a", b"b"), text(b"aa"), run(1), next_step(), run(1), next_step(), run(0)]
        self.assertEqual(answered(*calls), [0, 0, 0, 1, 0, -1, 0])

    def test_a_step_that_would_make_the_text_too_long(self):
        calls = [rule(b"x", b""), rule(b"b", b"cc"), text(b"a" * 8191 + b"b"), next_step(), run(1), next_step()]
        self.assertEqual(answered(*calls), [0, 1, 0, 16384 + 8191, -2, 16384 + 8191])

    def test_after_steps(self):
        # Rule 1 makes what rule 0 takes then, ahead of the place where it was made.
        rules = [(b"xb", b"y"), (b"a", b"b")]
        calls = [*[rule(*one) for one in rules], text(b"xxaa"), next_step(), run(1), next_step(), run(1), next_step()]
        self.assertEqual(answered(*calls), [0, 1, 0, 16384 + 2, 0, 1, 0, 16384 + 2])

    def test_begin_in_mid_line(self):
        self.assertEqual(answered(rule(b"a", b""), text(b"a"), begin(), next_step()), [0, 0, 0, -1])
        calls = [rule(b"a", b"", 1), text(b"a"), run(1), begin(), rule(b"", b""), next_step()]
        self.assertEqual(answered(*calls), [0, 0, 2, 0, 0, 0])

    def test_it_is_what_the_step_takes(self):
        rules = [(b"ba", b"ab"), (b"cb", b"bc"), (b"ca", b"ac"), (b"c", b"d", 1)]
        line = [*[rule(*one) for one in rules], text(b"cbacbaabc")]
        content = b"cbacbaabc"
        for count in range(100):
            given = told(*line, *[run(1)] * count, next_step(), run(1), read(8192))
            self.assertEqual(len(content), given[-1][0])
            if given[-3] == [-1]:
                break
            number, place = divmod(given[-3][0], 16384)
            left, right = rules[number][:2]
            self.assertEqual(content[place:place + len(left)], left)
            content = content[:place] + right + content[place + len(left):]
            self.assertEqual(bytes(given[-1][1:]), content)
        self.assertEqual(content, b"aaabbbdcc")

    def test_nothing_is_changed_by_it(self):
        for content in (b"", b"aab", b"xx", b"b", b"a" * 8192):
            for count in (0, 1, 2, 9):
                with self.subTest(content=content[:3], count=count):
                    ahead = [rule(b"a", b"bb"), rule(b"b", b"c", 1), text(content), run(count)]
                    behind = [*ALL_TOLD, joins(), run(1), *ALL_TOLD]
                    asked = told(*ahead, next_step(), next_step(), steps(), *behind)
                    self.assertEqual(asked[7:], told(*ahead, *behind)[4:])


if __name__ == "__main__":
    unittest.main()
