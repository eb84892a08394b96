"""Calls as they stand in the list, and a plain model to compare with."""

from ruleturn.desk import answers
from ruleturn.turning import Turning


def begin():
    return [0]


def rule(left, right, stop=0):
    return [1, stop, len(left), *left, len(right), *right]


def text(content):
    return [2, len(content), *content]


def run(count):
    return [3, count]


def read(most):
    return [4, most]


def next_step():
    return [5]


def steps():
    return [6]


def joins():
    return [7]


# What read, next and steps tell, and whether the run is over: all but the rules.
ALL_TOLD = [read(8192), next_step(), steps(), run(0)]


def told(*calls):
    """The answer of each call, a list of numbers each."""
    given = answers([number for call in calls for number in call])
    apart = []
    while given:
        apart.append(given[1:1 + given[0]])
        if len(apart[-1]) != given[0] or given[0] < 1:
            raise AssertionError(f"not as many numbers as was said: {given}")
        given = given[1 + given[0]:]
    if len(apart) != len(calls):
        raise AssertionError(f"not one answer for each call: {apart}")
    return apart


def answered(*calls):
    """The number that each call answers; every one of these calls answers one number."""
    apart = told(*calls)
    if {len(one) for one in apart} - {1}:
        raise AssertionError(f"not one number for each call: {apart}")
    return [one[0] for one in apart]


def turning_with(rules, content):
    """A Turning with these rules (left, right, stop), and this text."""
    turning = Turning()
    for left, right, stop in rules:
        turning.add_rule(list(left), list(right), stop)
    turning.give_text(list(content))
    return turning


class PlainModel:
    """The promises again, over Python's bytes, each step walked and each rule searched for anew."""

    def __init__(self):
        self.begin()

    def begin(self):
        self.rules = []
        self.text = b""
        self.over = 0
        self.steps = 0
        return 0

    def add_rule(self, left, right, stop):
        if len(left) > 32 or len(right) > 32 or stop not in (0, 1):
            return -1
        if len(self.rules) == 64:
            return -2
        self.rules.append((bytes(left), bytes(right), stop))
        return len(self.rules) - 1

    def give_text(self, content):
        if len(content) > 8192:
            return -1
        self.text, self.over, self.steps = bytes(content), 0, 0
        return 0

    def run(self, count):
        if not 0 <= count <= 1000000:
            return -1
        for _ in range(count):
            if self.over:
                break
            fitting = [one for one in self.rules if one[0] in self.text]
            if not fitting:
                self.over = 1
                break
            left, right, stop = fitting[0]
            place = self.text.index(left)
            turned = self.text[:place] + right + self.text[place + len(left):]
            if len(turned) > 8192:
                return -2
            self.text = turned
            self.steps += 1
            if stop:
                self.over = 2
        return self.over

    def read(self, most):
        return [len(self.text), *(self.text[:most] if 1 <= most <= 8192 else b"")]

    def next_step(self):
        if self.over == 0:
            for number, (left, right, stop) in enumerate(self.rules):
                if left in self.text:
                    return 16384 * number + self.text.index(left)
        return -1

    def tell_steps(self):
        return min(self.steps, 10 ** 9)

    def joins(self):
        sides = [(left, right) for left, right, stop in self.rules]
        if any(len(right) >= len(left) for left, right in sides):
            return -2
        return int(all(plain_rest(sides, one) == plain_rest(sides, other) for one, other in plain_meets(sides)))


def plain_rest(sides, content):
    while True:
        fitting = [(left, right) for left, right in sides if left in content]
        if not fitting:
            return content
        content = content.replace(*fitting[0], 1)


def plain_meets(sides):
    """Each two texts that come of a text in which two rules meet, found by laying one left side over the other."""
    for left, right in sides:
        for other_left, other_right in sides:
            for place in range(len(left)):
                over = left[place:place + len(other_left)]
                if not other_left.startswith(over):
                    continue
                whole = left[:place] + other_left + left[place + len(other_left):]
                # At place 0 the part may not be all of this left side, unless the other one stands within it.
                if place > 0 or len(other_left) <= len(left):
                    yield right + whole[len(left):], whole[:place] + other_right + whole[place + len(other_left):]
