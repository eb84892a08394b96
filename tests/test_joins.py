"""Point 8, joins."""

import itertools
import random
import unittest

from ruleturn.desk import answers
from ruleturn.fitting import Rule
from ruleturn.joining import Rests, over_a_part, text_after_step, within
from ruleturn.signs import read_back, written
from tests.helper import ALL_TOLD, PlainModel, answered, begin, joins, next_step, read, rule, run, steps, text, told


def told_joins(*rules):
    return answered(*[rule(*one) for one in rules], joins())[-1]


class RefusalTest(unittest.TestCase):

    def test_right_side_as_long_as_the_left_one(self):
        self.assertEqual(told_joins((b"a", b"b")), -2)
        self.assertEqual(told_joins((b"a", b"a")), -2)
        self.assertEqual(told_joins((b"a" * 32, b"b" * 32)), -2)

    def test_right_side_longer(self):
        self.assertEqual(told_joins((b"a", b"bc")), -2)
        self.assertEqual(told_joins((b"a", b"a" * 32)), -2)

    def test_empty_left_side(self):
        self.assertEqual(told_joins((b"", b"")), -2)
        self.assertEqual(told_joins((b"", b"a")), -2)

    def test_one_of_several(self):
        good = [(b"ab", b"c"), (b"cd", b""), (b"e", b"")]
        self.assertEqual(told_joins(*good), 1)
        for place in range(4):
            with self.subTest(place=place):
                self.assertEqual(told_joins(*good[:place], (b"x", b"y"), *good[place:]), -2)

    def test_ahead_of_rules_that_do_not_join(self):
        apart = [(b"a", b""), (b"ab", b"c")]
        self.assertEqual(told_joins(*apart), 0)
        self.assertEqual(told_joins(*apart, (b"x", b"y")), -2)
        self.assertEqual(told_joins((b"", b"x"), *apart), -2)

    def test_a_rule_that_is_the_last(self):
        self.assertEqual(told_joins((b"x", b"y", 1)), -2)


class JoinsTest(unittest.TestCase):

    def test_no_rules(self):
        self.assertEqual(answered(joins()), [1])
        self.assertEqual(answered(begin(), joins()), [0, 1])

    def test_rules_that_do_not_meet(self):
        self.assertEqual(told_joins((b"a", b"")), 1)
        self.assertEqual(told_joins((b"ab", b"c"), (b"de", b"f"), (b"g", b"")), 1)

    def test_rules_that_meet_only_in_what_they_make(self):
        self.assertEqual(told_joins((b"ab", b"c"), (b"cd", b"e")), 1)

    def test_end_and_beginning_of_two_rules(self):
        # abc: xc or ay.
        self.assertEqual(told_joins((b"ab", b"x"), (b"bc", b"y")), 0)
        self.assertEqual(told_joins((b"bc", b"y"), (b"ab", b"x")), 0)
        # abc: c or a.
        self.assertEqual(told_joins((b"ab", b""), (b"bc", b"")), 0)
        # abc: c or ac, and that comes to c.
        self.assertEqual(told_joins((b"ab", b""), (b"bc", b"c"), (b"ac", b"c")), 1)
        # abc: xc or ay, and both come to z.
        self.assertEqual(told_joins((b"ab", b"x"), (b"bc", b"y"), (b"xc", b"z"), (b"ay", b"z")), 1)
        self.assertEqual(told_joins((b"ab", b"x"), (b"bc", b"y"), (b"xc", b"z"), (b"ay", b"w")), 0)

    def test_each_length_of_the_part(self):
        # xabcd is the one text in which they meet, over three bytes, two, or one; the others don't meet.
        self.assertEqual(told_joins((b"xabc", b"p"), (b"abcd", b"q")), 0)
        self.assertEqual(told_joins((b"xabc", b"p"), (b"bcd", b"q")), 0)
        self.assertEqual(told_joins((b"xabc", b"p"), (b"cd", b"q")), 0)
        self.assertEqual(told_joins((b"xabc", b"p"), (b"bd", b"q")), 1)
        self.assertEqual(told_joins((b"xabc", b"p"), (b"acd", b"q")), 1)

    def test_several_parts_of_two_rules(self):
        # They meet over a, in cababad, and over aba, in cabad. Each has to come to the same.
        rules = [(b"caba", b"p"), (b"abad", b"q")]
        over_one = [(b"pbad", b"z"), (b"cabq", b"z")]
        over_three = [(b"pd", b"z"), (b"cq", b"z")]
        self.assertEqual(told_joins(*rules), 0)
        self.assertEqual(told_joins(*rules, *over_one), 0)
        self.assertEqual(told_joins(*rules, *over_three), 0)
        self.assertEqual(told_joins(*rules, *over_one, *over_three), 1)

    def test_one_rule_with_itself(self):
        # ababa: xba or abx.
        self.assertEqual(told_joins((b"aba", b"x")), 0)
        self.assertEqual(told_joins((b"aba", b"a")), 1)
        self.assertEqual(told_joins((b"aba", b"")), 0)
        self.assertEqual(told_joins((b"aa", b"a")), 1)
        self.assertEqual(told_joins((b"aa", b"")), 1)
        self.assertEqual(told_joins((b"aa", b"b")), 0)
        self.assertEqual(told_joins((b"aaa", b"ab")), 0)
        self.assertEqual(told_joins((b"ab", b"x")), 1)

    def test_all_of_a_left_side_is_no_part(self):
        # Put together over all of ab it would be nothing but a rule's left side, turned twice alike.
        self.assertEqual(told_joins((b"ab", b"c")), 1)

    def test_within_at_the_beginning(self):
        self.assertEqual(told_joins((b"abc", b"x"), (b"ab", b"y")), 0)
        self.assertEqual(told_joins((b"ab", b"y"), (b"abc", b"x")), 0)
        self.assertEqual(told_joins((b"abc", b"x"), (b"ab", b"y"), (b"yc", b"x")), 1)
        self.assertEqual(told_joins((b"abc", b"c"), (b"ab", b"")), 1)

    def test_within_in_the_midst(self):
        self.assertEqual(told_joins((b"abc", b"x"), (b"b", b"")), 0)
        self.assertEqual(told_joins((b"b", b""), (b"abc", b"x")), 0)
        self.assertEqual(told_joins((b"abc", b"x"), (b"b", b""), (b"ac", b"x")), 1)
        self.assertEqual(told_joins((b"abc", b"ac"), (b"b", b"")), 1)

    def test_within_at_the_end(self):
        self.assertEqual(told_joins((b"abc", b"x"), (b"bc", b"y")), 0)
        self.assertEqual(told_joins((b"bc", b"y"), (b"abc", b"x")), 0)
        self.assertEqual(told_joins((b"abc", b"x"), (b"bc", b"y"), (b"ay", b"x")), 1)
        self.assertEqual(told_joins((b"abc", b"a"), (b"bc", b"")), 1)

    def test_within_at_several_places(self):
        # abxab: xab or abx, and both come to x.
        self.assertEqual(told_joins((b"abxab", b"x"), (b"ab", b"")), 1)
        self.assertEqual(told_joins((b"abxab", b"p"), (b"ab", b"")), 0)
        # caaad: aa stands at two places that lie over one another.
        self.assertEqual(told_joins((b"caaad", b"cad"), (b"aa", b"a")), 1)
        self.assertEqual(told_joins((b"caaad", b"cd"), (b"aa", b"a")), 0)

    def test_the_same_left_side_twice(self):
        self.assertEqual(told_joins((b"ab", b"x"), (b"ab", b"y")), 0)
        self.assertEqual(told_joins((b"ab", b"x"), (b"ab", b"x")), 1)
        self.assertEqual(told_joins((b"ab", b"x"), (b"ab", b"")), 0)
        self.assertEqual(told_joins((b"ab", b"x"), (b"ab", b""), (b"x", b"")), 1)
        self.assertEqual(told_joins((b"ab", b"x"), (b"ab", b"y"), (b"x", b""), (b"y", b"")), 1)

    def test_rests_that_are_the_same_only_after_several_steps(self):
        down = [(b"pqr", b"st"), (b"st", b"u"), (b"vw", b"u")]
        self.assertEqual(told_joins((b"abcd", b"pqr"), (b"abcd", b"vw"), *down), 1)
        self.assertEqual(told_joins((b"abcd", b"pqr"), (b"abcd", b"vw"), *down[:2]), 0)
        self.assertEqual(told_joins((b"abcd", b"pqr"), (b"abcd", b"vw"), down[0], down[2]), 0)

    def test_rests_are_walked_to_the_end(self):
        # Of 32 times ! come 31 a, then 30 b, and so on down to 6 z, and then nothing; or a point, and then nothing.
        down = [(bytes([97 + k]) * (31 - k), bytes([98 + k]) * (30 - k)) for k in range(25)] + [(b"z" * 6, b"")]
        rules = [(b"!" * 32, b"a" * 31), (b"!" * 32, b"."), *down]
        self.assertEqual(told_joins(*rules, (b".", b"")), 1)
        self.assertEqual(told_joins(*rules), 0)
        self.assertEqual(told_joins(*rules[:-1], (b".", b"")), 0)

    def test_rests_by_rules_that_are_the_last(self):
        # A step by a rule that is the last doesn't end the way to the rest.
        for stops in itertools.product((0, 1), repeat=3):
            with self.subTest(stops=stops):
                sides = [(b"abc", b"xy"), (b"abc", b"z"), (b"xy", b"z")]
                self.assertEqual(told_joins(*[(*one, stop) for one, stop in zip(sides, stops)]), 1)
                self.assertEqual(told_joins(*[(*one, stop) for one, stop in zip(sides[:2], stops)]), 0)
        self.assertEqual(told_joins((b"abcd", b"pqr", 1), (b"abcd", b"z", 1), (b"pqr", b"st", 1), (b"st", b"z", 1)), 1)

    def test_bytes_0_and_255(self):
        self.assertEqual(told_joins(([0, 255], [0]), ([255, 0], [255])), 0)
        self.assertEqual(told_joins(([0, 255], [0]), ([255, 0], [255]), ([0, 0], [0])), 0)
        self.assertEqual(told_joins(([0, 255], [0]), ([255, 0], [255]), ([0, 0], [0]), ([255, 255], [255])), 1)
        # Halves of bytes put together are no meeting: 0x12 0x34 and 0x23.
        self.assertEqual(told_joins(([0x12, 0x34], [0x10]), ([0x23], []), ([0x41, 0x52], [0x20])), 1)

    def test_groups(self):
        # aA and Aa go: whatever order is taken. With bbb and a rule for aba they no longer agree.
        self.assertEqual(told_joins((b"aA", b""), (b"Aa", b"")), 1)
        self.assertEqual(told_joins((b"aA", b""), (b"Aa", b""), (b"bbb", b"")), 1)
        self.assertEqual(told_joins((b"aA", b""), (b"Aa", b""), (b"bbb", b""), (b"aba", b"b")), 0)


def kept_rule(left, right):
    return Rule(written(left), written(right), False)


def plainly(pairs):
    return [(bytes(read_back(one)), bytes(read_back(other))) for one, other in pairs]


class MeetingTest(unittest.TestCase):

    def test_over_a_part(self):
        caba, abad = kept_rule(b"caba", b"p"), kept_rule(b"abad", b"q")
        self.assertEqual(plainly(over_a_part(caba, abad)), [(b"pbad", b"cabq"), (b"pd", b"cq")])
        self.assertEqual(plainly(over_a_part(abad, caba)), [])

    def test_not_over_all_of_the_first_left_side(self):
        ab, abc = kept_rule(b"ab", b"x"), kept_rule(b"abc", b"y")
        self.assertEqual(plainly(over_a_part(ab, abc)), [])
        aaa = kept_rule(b"aaa", b"x")
        self.assertEqual(plainly(over_a_part(aaa, aaa)), [(b"xaa", b"aax"), (b"xa", b"ax")])

    def test_over_all_of_the_second_left_side(self):
        self.assertEqual(plainly(over_a_part(kept_rule(b"abc", b"y"), kept_rule(b"bc", b"x"))), [(b"y", b"ax")])

    def test_within(self):
        caaad, aa = kept_rule(b"caaad", b"y"), kept_rule(b"aa", b"b")
        self.assertEqual(plainly(within(caaad, aa)), [(b"y", b"cbad"), (b"y", b"cabd")])
        self.assertEqual(plainly(within(aa, caaad)), [])
        self.assertEqual(plainly(within(aa, aa)), [(b"b", b"b")])

    def test_a_step_is_taken_at_the_first_place_by_the_first_rule(self):
        rules = [kept_rule(b"bb", b"c"), kept_rule(b"a", b"")]
        for content, after in ((b"aabbbb", b"aacbb"), (b"aacbb", b"aacc"), (b"aacc", b"acc"), (b"acc", b"cc")):
            self.assertEqual(text_after_step(rules, written(content)), written(after))
        self.assertIsNone(text_after_step(rules, written(b"cc")))
        self.assertIsNone(text_after_step([], ""))

    def test_rests(self):
        rests = Rests([kept_rule(b"bb", b"c"), kept_rule(b"a", b"")])
        for _ in range(2):
            for content, rest in ((b"aabbbb", b"cc"), (b"bab", b"c"), (b"bb", b"c"), (b"c", b"c"), (b"", b"")):
                self.assertEqual(rests.rest_of(written(content)), written(rest))
        self.assertTrue(rests.are_same(written(b"bab"), written(b"c")))
        self.assertFalse(rests.are_same(written(b"bab"), written(b"cc")))


class AnyTimeTest(unittest.TestCase):

    def test_told_of_the_rules_there_are(self):
        calls = [joins(), rule(b"ab", b"x"), joins(), rule(b"bc", b"y"), joins(), rule(b"xc", b""), joins(),
                 rule(b"ay", b""), joins(), rule(b"q", b"q"), joins(), joins(), begin(), joins()]
        self.assertEqual(answered(*calls), [1, 0, 1, 1, 0, 2, 0, 3, 1, 4, -2, -2, 0, 1])

    def test_refused_rules_do_not_count(self):
        calls = [rule(b"ab", b"x"), joins(), rule(b"ab", b"y", 2), joins(), rule(b"ab", b"", -1), joins()]
        self.assertEqual(answered(*calls), [0, 1, -1, 1, -1, 1])
        full = [rule(b"ab", b"x")] * 64
        self.assertEqual(answered(*full, joins(), rule(b"", b""), joins())[64:], [1, -2, 1])

    def test_another_line_of_rules_after_begin(self):
        calls = [rule(b"aa", b"b"), joins(), begin(), rule(b"aa", b"a"), joins(), begin(), rule(b"a", b"a"), joins()]
        self.assertEqual(answered(*calls), [0, 0, 0, 0, 1, 0, 0, -2])

    def test_text_run_and_steps_stay(self):
        for rules in ([(b"ab", b"x"), (b"bc", b"y")], [(b"ab", b"x", 1), (b"bc", b"")], [(b"a", b"bc"), (b"b", b"")], []):
            for count in (0, 1, 2, 9):
                with self.subTest(rules=rules, count=count):
                    ahead = [*[rule(*one) for one in rules], text(b"cabcab"), run(count)]
                    behind = [*ALL_TOLD, run(1), *ALL_TOLD, run(9), *ALL_TOLD]
                    asked = told(*ahead, joins(), joins(), *behind)
                    self.assertEqual(asked[len(ahead) + 2:], told(*ahead, *behind)[len(ahead):])

    def test_the_text_and_the_run_have_no_effect_on_it(self):
        for over in (0, 1):
            calls = [rule(b"ab", b"x", over), rule(b"bc", b"y"), joins(), text(b"abab"), joins(), run(1), joins(), run(9),
                     joins(), text(b""), joins(), run(-1), joins(), steps(), next_step(), joins()]
            self.assertEqual([one for place, one in enumerate(answered(*calls)) if calls[place] == joins()], [0] * 7)

    def test_after_a_run_that_would_make_the_text_too_long(self):
        calls = [rule(b"", b"a"), text(b"a" * 8192), run(1), joins(), read(1), run(0)]
        self.assertEqual(told(*calls), [[0], [0], [-2], [-2], [8192, 97], [0]])


class LargeTest(unittest.TestCase):

    def test_64_rules_with_sides_of_32_bytes(self):
        apart = [([number] * 32, [number] * 31) for number in range(64)]
        self.assertEqual(told_joins(*apart), 1)
        self.assertEqual(told_joins(*apart[:63], ([0] * 31 + [1], [0] * 31)), 1)
        self.assertEqual(told_joins(*apart[:63], ([0] * 31 + [1], [0] * 30)), 0)
        self.assertEqual(told_joins(*apart[:63], ([0] * 32, [0] * 32)), -2)

    def test_the_same_left_side_64_times(self):
        self.assertEqual(told_joins(*[(b"a" * 32, b"a" * 31)] * 64), 1)
        self.assertEqual(told_joins(*[(b"a" * 32, b"a" * 31)] * 63, (b"a" * 32, b"a" * 30)), 0)
        self.assertEqual(told_joins(*[(b"a" * 32, b"a" * (number % 32)) for number in range(63)], (b"a", b"")), 1)

    def test_left_sides_of_every_length(self):
        rules = [(b"a" * length, b"a" * (length - 1)) for length in range(32, 0, -1)]
        self.assertEqual(told_joins(*rules, *rules), 1)
        self.assertEqual(told_joins(*rules, *rules[:-1], (b"a", b"")), 1)
        self.assertEqual(told_joins(*rules[:31], (b"b" + b"a" * 31, b"")), 0)

    def test_one_byte_makes_the_difference_at_the_very_end(self):
        rules = [([number] * 32, [number] * 31) for number in range(62)]
        last = [200] * 31
        self.assertEqual(told_joins(*rules, (last + [201], [1]), ([201, 202], [])), 0)
        self.assertEqual(told_joins(*rules, (last + [201], [1]), ([203, 202], [])), 1)

    def test_many_meetings_and_long_ways(self):
        # z takes in whatever stands beside it: so all comes to z, in many steps.
        takes_in = [(b"az", b"z"), (b"za", b"z"), (b"bz", b"z"), (b"zb", b"z"), (b"zz", b"z")]
        draw = random.Random(5)
        rules = []
        for place in range(32):
            right = bytes(draw.choice(b"abz") for _ in range(30))
            rules.append((b"a" * place + b"b" + b"a" * (31 - place), right + b"z"))
        self.assertEqual(told_joins(*rules, *takes_in), 1)
        self.assertEqual(told_joins(*rules, *takes_in[:3], *takes_in[4:]), 0)

    def test_asked_again_and_again(self):
        calls = []
        for number in range(64):
            calls = calls + rule(b"a" * 32, b"a" * (31 - number % 2 * 31))
        self.assertEqual(answers(calls + joins() * 236)[128:], [1, 0] * 236)


def every_end(sides, content, known):
    """All the texts to which one may come, whichever rule is taken at whichever place."""
    if content not in known:
        ends = set()
        for left, right in sides:
            for place in range(len(content) - len(left) + 1):
                if content.startswith(left, place):
                    ends |= every_end(sides, content[:place] + right + content[place + len(left):], known)
        known[content] = ends or {content}
    return known[content]


class OrderTest(unittest.TestCase):

    def drawn_sides(self, draw):
        sides = []
        for _ in range(draw.randint(1, 4)):
            left = bytes(draw.choice(b"ab") for _ in range(draw.randint(1, 3)))
            right = bytes(draw.choice(b"ab") for _ in range(draw.randint(0, len(left) - 1)))
            sides.append((left, right))
        return sides

    def test_it_tells_whether_the_order_matters(self):
        # Rules join just if every text comes to one end, whatever the order. Two left sides of three bytes
        # that lie over one another have five bytes: what doesn't join is seen on a text of that length.
        contents = [bytes(one) for length in range(7) for one in itertools.product(b"ab", repeat=length)]
        seen = {0: 0, 1: 0}
        for seed in range(800):
            sides = self.drawn_sides(random.Random(seed))
            known = {}
            one_end = all(len(every_end(sides, content, known)) == 1 for content in contents)
            with self.subTest(sides=sides):
                self.assertEqual(told_joins(*sides), int(one_end))
            seen[int(one_end)] += 1
        self.assertGreater(min(seen.values()), 100)

    def test_against_the_plain_model(self):
        seen = {-2: 0, 0: 0, 1: 0}
        for seed in range(1500):
            draw = random.Random(seed)
            signs = draw.choice([b"a", b"ab", b"ab", b"abc"])
            model, calls = PlainModel(), []
            for _ in range(draw.randint(1, 5)):
                left = [draw.choice(signs) for _ in range(draw.randint(1, 6))]
                right = [draw.choice(signs) for _ in range(draw.randint(0, len(left) - (draw.random() < 0.95)))]
                stop = draw.randint(0, 1)
                model.add_rule(left, right, stop)
                calls.append(rule(left, right, stop))
            expected = model.joins()
            with self.subTest(calls=calls):
                self.assertEqual(answered(*calls, joins())[-1], expected)
            seen[expected] += 1
        self.assertGreater(min(seen.values()), 50)


if __name__ == "__main__":
    unittest.main()
