"""Many lines of calls, drawn from fixed seeds, answered as the plain model answers them."""

import random
import unittest

from ruleturn.signs import written
from ruleturn.turning import Turning
from tests.helper import PlainModel


def drawn_side(draw, most):
    return [draw.choice(b"abc") for _ in range(draw.randint(0, most))]


def drawn_call(draw, longest, counts):
    kind = draw.choice(["rule"] * 4 + ["text"] * 2 + ["run"] * 6 + ["begin"] * (draw.random() < 0.1))
    if kind == "rule":
        left = drawn_side(draw, 3)
        if not left and draw.random() < 0.8:
            left = [draw.choice(b"abc")]
        return "add_rule", (left, drawn_side(draw, 3), draw.choice([0] * 12 + [1, 1, 2, -1]))
    if kind == "text":
        return "give_text", ([draw.choice(b"abc") for _ in range(draw.choice(longest))],)
    if kind == "run":
        return "run", (draw.choice(counts),)
    return "begin", ()


class ModelTest(unittest.TestCase):

    def compare(self, seed, length, longest, counts):
        draw = random.Random(seed)
        turning, model = Turning(), PlainModel()
        for _ in range(length):
            name, given = drawn_call(draw, longest, counts)
            with self.subTest(seed=seed, call=name, given=given[:3]):
                self.assertEqual(getattr(turning, name)(*given), getattr(model, name)(*given))
                self.assertEqual(turning.text, written(model.text))
                self.assertEqual((turning.over, turning.steps), (model.over, model.steps))
                self.assertEqual(len(turning.rules), len(model.rules))

    def test_short_texts(self):
        for seed in range(600):
            self.compare(seed, 25, [0, 1, 2, 5, 9, 20], [0, 1, 2, 3, 7, 50, 333, -1, 1000001])

    def test_long_runs(self):
        for seed in range(1000, 1040):
            self.compare(seed, 15, [3, 8, 13], [1000, 2048, 4999])

    def test_texts_near_the_longest(self):
        for seed in range(2000, 2040):
            self.compare(seed, 15, [8180, 8190, 8191, 8192, 8193], [1, 2, 5, 20, 100])


if __name__ == "__main__":
    unittest.main()
