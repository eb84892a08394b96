"""Rules, and where they fit. Sides, texts and places are counted in signs here."""


class Rule:
    """What is put for what, and whether the run is over by it."""

    def __init__(self, left, right, last):
        self.left = left
        self.right = right
        self.last = last


class Fit:
    """A rule, its number, and the place where it fits."""

    def __init__(self, number, rule, place):
        self.number = number
        self.rule = rule
        self.place = place


def shortens(rule):
    return len(rule.right) < len(rule.left)


def turned(text, rule, place):
    """The text with the rule's right side put for its left one, which stands at this place."""
    return text[:place] + rule.right + text[place + len(rule.left):]


def next_fit(rules, text, before):
    """The fit that the next step takes, or None.

    before is the fit by whose step this text came, or None if that isn't known.
    """
    for number, rule in enumerate(rules):
        if before is None or number > before.number:
            place = text.find(rule.left)
        else:
            place = place_after(text, rule.left, number, before)
        if place >= 0:
            return Fit(number, rule, place)
    return None


def place_after(text, left, number, before):
    """The first place of a rule that came no later than the one in before, or -1.

    Such a rule fitted nowhere ahead of the change, else it would have been taken there.
    So it need not be looked for where nothing has changed: this keeps steps on long texts short.
    """
    start = max(0, before.place - len(left))
    if number == before.number:
        return text.find(left, start)
    return text.find(left, start, before.place + len(before.rule.right) + len(left))
