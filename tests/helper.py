"""Calls as they stand in the list, and a plain model to compare with."""

from ruleturn.desk import answers
from ruleturn.turning import Turning


def begin():
    return [0]


def rule(left, right, stop=0):
    return [1, stop, len(left), *left, len(right), *right]


def text(content):
    return [2, len(content), *content]


def run(count):
    return [3, count]


def answered(*calls):
    """The first number of each answer; every one of these calls answers one number."""
    given = answers([number for call in calls for number in call])
    if given[0::2] != [1] * len(calls):
        raise AssertionError(f"not one number for each call: {given}")
    return given[1::2]


def turning_with(rules, content):
    """A Turning with these rules (left, right, stop), and this text."""
    turning = Turning()
    for left, right, stop in rules:
        turning.add_rule(list(left), list(right), stop)
    turning.give_text(list(content))
    return turning


class PlainModel:
    """The promises again, over Python's bytes, each step walked and each rule searched for anew."""

    def __init__(self):
        self.begin()

    def begin(self):
        self.rules = []
        self.text = b""
        self.over = 0
        self.steps = 0
        return 0

    def add_rule(self, left, right, stop):
        if len(left) > 32 or len(right) > 32 or stop not in (0, 1):
            return -1
        if len(self.rules) == 64:
            return -2
        self.rules.append((bytes(left), bytes(right), stop))
        return len(self.rules) - 1

    def give_text(self, content):
        if len(content) > 8192:
            return -1
        self.text, self.over, self.steps = bytes(content), 0, 0
        return 0

    def run(self, count):
        if not 0 <= count <= 1000000:
            return -1
        for _ in range(count):
            if self.over:
                break
            fitting = [one for one in self.rules if one[0] in self.text]
            if not fitting:
                self.over = 1
                break
            left, right, stop = fitting[0]
            place = self.text.index(left)
            turned = self.text[:place] + right + self.text[place + len(left):]
            if len(turned) > 8192:
                return -2
            self.text = turned
            self.steps += 1
            if stop:
                self.over = 2
        return self.over
