"""All eight calls mixed in one list, drawn from fixed seeds, and answered as the plain model answers them."""

import random
import unittest

from ruleturn.desk import answers
from tests.helper import PlainModel, begin, joins, next_step, read, rule, run, steps, text

KINDS = ["begin"] + ["rule"] * 12 + ["text"] * 5 + ["run"] * 10 + ["read"] * 6 + ["next"] * 6 + ["steps"] * 4 + ["joins"] * 6


class Drawn:
    """A list of calls, and beside it what the model answers to them, call by call."""

    def __init__(self, seed, signs, lengths, counts):
        self.draw = random.Random(seed)
        self.signs = signs
        self.lengths = lengths
        self.counts = counts
        self.model = PlainModel()
        self.calls = []
        self.expected = []
        self.answers_seen = {}

    def row(self, length):
        return [self.draw.choice(self.signs) for _ in range(length)]

    def drawn_rule(self):
        left = self.row(self.draw.choice([0, 1, 1, 2, 2, 2, 3, 3, 4]))
        if not left and self.draw.random() < 0.8:
            left = self.row(1)
        # Most rules shorten, else joins would tell -2 nearly always.
        most = len(left) - 1 if left and self.draw.random() < 0.85 else 4
        return left, self.row(self.draw.randint(0, most)), self.draw.choice([0] * 12 + [1, 1, 2, -1])

    def drawn_call(self, kind):
        """A call as it stands in the list, and the model's answer."""
        if kind == "begin":
            return begin(), [self.model.begin()]
        if kind == "rule":
            given = self.drawn_rule()
            return rule(*given), [self.model.add_rule(*given)]
        if kind == "text":
            given = self.row(self.draw.choice(self.lengths))
            return text(given), [self.model.give_text(given)]
        if kind == "run":
            given = self.draw.choice(self.counts)
            return run(given), [self.model.run(given)]
        if kind == "read":
            given = self.draw.choice([-1, 0, 1, 2, 5, 9, 8191, 8192, 8193, 2147483647, -2147483648])
            return read(given), self.model.read(given)
        if kind == "next":
            return next_step(), [self.model.next_step()]
        if kind == "steps":
            return steps(), [self.model.tell_steps()]
        return joins(), [self.model.joins()]

    def add(self, kind):
        call, answer = self.drawn_call(kind)
        self.calls.extend(call)
        self.expected.extend([len(answer), *answer])
        self.answers_seen.setdefault(kind, set()).add(answer[0])

    def add_many(self, count):
        for _ in range(count):
            self.add(self.draw.choice(KINDS))
        return self


class WholeTest(unittest.TestCase):

    def check(self, drawn):
        kept = list(drawn.calls)
        given = answers(drawn.calls)
        self.assertEqual(given, drawn.expected)
        self.assertEqual(drawn.calls, kept)
        self.assertEqual(answers(drawn.calls), given)

    def test_short_texts(self):
        seen = {}
        for seed in range(500):
            drawn = Drawn(seed, b"abc"[:2 + seed % 2], [0, 1, 2, 5, 9, 20], [0, 1, 2, 3, 7, 50, 333, -1, 1000001])
            drawn.add("begin")
            with self.subTest(seed=seed):
                self.check(drawn.add_many(40))
            for kind, numbers in drawn.answers_seen.items():
                seen.setdefault(kind, set()).update(numbers)
        # Each kind of answer came, so that each was held against the model.
        self.assertEqual(seen["begin"] | seen["text"], {0})
        self.assertEqual(seen["run"], {-1, 0, 1, 2})
        self.assertEqual(seen["joins"], {-2, 0, 1})
        self.assertLessEqual({-1, 0, 1, 16384, 16385, 3 * 16384}, seen["next"])
        self.assertLessEqual({-1, 0, 1, 2, 3}, seen["rule"])

    def test_lines_without_begin(self):
        for seed in range(500, 600):
            with self.subTest(seed=seed):
                self.check(Drawn(seed, b"ab", [0, 1, 2, 5, 9], [0, 1, 2, 3, 7, 50]).add_many(20))

    def test_texts_near_the_longest(self):
        seen = set()
        for seed in range(1000, 1040):
            drawn = Drawn(seed, b"ab", [8180, 8190, 8191, 8192], [1, 2, 5, 20, 100])
            for kind in ("begin", "text", "rule", "rule", "next", "run", "read", "steps"):
                drawn.add(kind)
            with self.subTest(seed=seed):
                self.check(drawn.add_many(12))
            seen |= drawn.answers_seen["run"]
        self.assertEqual(seen, {-2, 0, 1, 2})

    def test_texts_longer_than_the_longest(self):
        for seed in range(1100, 1110):
            drawn = Drawn(seed, b"ab", [3, 8193, 9000], [1, 2])
            with self.subTest(seed=seed):
                self.check(drawn.add_many(15))

    def test_all_bytes(self):
        for seed in range(1200, 1300):
            signs = random.Random(seed).choice([[0, 255], [0, 1, 16], [15, 240, 255], [0x12, 0x21, 0x22, 0x11]])
            with self.subTest(seed=seed):
                self.check(Drawn(seed, signs, [0, 1, 2, 5, 9, 20], [0, 1, 2, 3, 7, 50]).add_many(40))

    def test_long_runs(self):
        for seed in range(1400, 1430):
            drawn = Drawn(seed, b"ab", [3, 8, 13], [1000, 2048, 4999])
            with self.subTest(seed=seed):
                self.check(drawn.add_many(30))

    def test_three_hundred_calls(self):
        for seed in range(1500, 1510):
            drawn = Drawn(seed, b"abc", [0, 1, 2, 5, 9, 20, 100], [0, 1, 2, 3, 7, 50, -1])
            with self.subTest(seed=seed):
                self.check(drawn.add_many(300))

    def test_three_hundred_calls_in_thirty_thousand_numbers(self):
        for seed in range(1600, 1604):
            drawn = Drawn(seed, b"ab", [8192], [0, 1, 2, 3, 7, 50, -1])
            for kind in ("begin", "rule", "text", "run", "read", "text", "rule", "next", "text", "run", "steps", "joins"):
                drawn.add(kind)
            drawn.lengths = [0, 1, 2, 5, 9, 20]
            drawn.add_many(300 - 12 - 2)
            drawn.lengths = [30000 - len(drawn.calls) - len(text([])) - len(next_step())]
            drawn.add("text")
            drawn.add("next")
            self.assertEqual(len(drawn.calls), 30000)
            with self.subTest(seed=seed):
                self.check(drawn)


if __name__ == "__main__":
    unittest.main()
