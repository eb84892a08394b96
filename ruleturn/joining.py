"""Whether it matters in which order rules are taken. All of the rules are to shorten here."""

from ruleturn.fitting import turned
from ruleturn.signs import SIGNS_PER_BYTE


class Rests:
    """What texts come to by these rules, till none fits. Each text is walked from once."""

    def __init__(self, rules):
        self.rules = rules
        self.known = {}

    def rest_of(self, text):
        passed = []
        while text is not None and text not in self.known:
            passed.append(text)
            text = text_after_step(self.rules, text)
        rest = passed[-1] if text is None else self.known[text]
        for one in passed:
            self.known[one] = rest
        return rest

    def are_same(self, one, other):
        return one == other or self.rest_of(one) == self.rest_of(other)


def text_after_step(rules, text):
    """The text that a step makes, or None if no rule fits."""
    for rule in rules:
        if rule.left in text:
            return text.replace(rule.left, rule.right, 1)
    return None


def do_join(rules):
    """Whether wherever two of the rules meet, the two texts that come of it have the same rest."""
    rests = Rests(rules)
    for r in rules:
        for q in rules:
            for by_r, by_q in over_a_part(r, q) + within(r, q):
                if not rests.are_same(by_r, by_q):
                    return False
    return True


def over_a_part(r, q):
    """The two texts for each part of r's left side, its end, that is the beginning of q's."""
    pairs = []
    longest = min(len(r.left) - SIGNS_PER_BYTE, len(q.left))
    for length in range(SIGNS_PER_BYTE, longest + 1, SIGNS_PER_BYTE):
        part = q.left[:length]
        if r.left.endswith(part):
            ahead = r.left[:len(r.left) - length]
            pairs.append((r.right + q.left[length:], ahead + q.right))
    return pairs


def within(r, q):
    """The two texts for each place at which q's left side stands within r's."""
    pairs = []
    place = r.left.find(q.left)
    while place >= 0:
        pairs.append((r.right, turned(r.left, q, place)))
        place = r.left.find(q.left, place + 1)
    return pairs
