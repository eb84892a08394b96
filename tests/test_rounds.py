"""Noticing rounds: never where there is none, and soon where there is one."""

import unittest

from ruleturn.rounds import RoundWatch
from ruleturn.signs import written
from tests.helper import turning_with


def noticed(ahead, length, most):
    """After how many steps a round behind some first texts is noticed, and how long it is said to be."""
    watch = RoundWatch("0")
    for step in range(1, most + 1):
        place = step if step < ahead else ahead + (step - ahead) % length
        said = watch.round_length(str(place))
        if said:
            return step, said
    return None


class RoundWatchTest(unittest.TestCase):

    def test_its_length_is_told(self):
        for ahead in (0, 1, 2, 5, 40):
            for length in (1, 2, 3, 7, 64, 65):
                with self.subTest(ahead=ahead, length=length):
                    step, said = noticed(ahead, length, 1000)
                    self.assertEqual(said, length)
                    self.assertLessEqual(step, 4 * (ahead + length) + 4)

    def test_none_where_no_text_comes_back(self):
        self.assertIsNone(noticed(5000, 1, 5000))

    def test_runs_that_go_round_are_the_same_as_walked(self):
        # Two steps to get there, then a round of three.
        rules = [(b"s", b"t", 0), (b"t", b"a", 0), (b"a", b"bb", 0), (b"bb", b"c", 0), (b"c", b"a", 0)]
        for count, turned in ((999998, b"a"), (999999, b"bb"), (1000000, b"c")):
            with self.subTest(count=count):
                turning = turning_with(rules, b"s")
                self.assertEqual(turning.run(count), 0)
                self.assertEqual((turning.text, turning.steps), (written(turned), count))


if __name__ == "__main__":
    unittest.main()
