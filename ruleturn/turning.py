"""Rules and a text that are kept, and the steps that are taken."""

from ruleturn.fitting import Rule, next_fit
from ruleturn.rounds import RoundWatch
from ruleturn.signs import SIGNS_PER_BYTE, written

LONGEST_SIDE = 32
MOST_RULES = 64
LONGEST_TEXT = 8192
MOST_STEPS = 1000000

NOT_OVER = 0
OVER_NO_FIT = 1
OVER_BY_LAST = 2

DONE = 0
OUT_OF_RANGE = -1
NO_ROOM = -2


class Turning:
    """The rules, the text, how the run is over, and how many steps were taken on the text."""

    def __init__(self):
        self.rules = []
        self.text = ""
        self.over = NOT_OVER
        self.steps = 0

    def begin(self):
        self.rules = []
        self.start_anew("")
        return DONE

    def add_rule(self, left, right, stop):
        if len(left) > LONGEST_SIDE or len(right) > LONGEST_SIDE or stop not in (0, 1):
            return OUT_OF_RANGE
        if len(self.rules) >= MOST_RULES:
            return NO_ROOM
        self.rules.append(Rule(written(left), written(right), stop == 1))
        return len(self.rules) - 1

    def give_text(self, row):
        if len(row) > LONGEST_TEXT:
            return OUT_OF_RANGE
        self.start_anew(written(row))
        return DONE

    def start_anew(self, text):
        self.text = text
        self.over = NOT_OVER
        self.steps = 0

    def run(self, count):
        if count < 0 or count > MOST_STEPS:
            return OUT_OF_RANGE
        watch = RoundWatch(self.text)
        before = None
        ahead = count
        while ahead > 0 and self.over == NOT_OVER:
            fit = next_fit(self.rules, self.text, before)
            if fit is None:
                self.over = OVER_NO_FIT
            elif self.grows_too_long(fit):
                return NO_ROOM
            else:
                self.take_step(fit)
                ahead = self.skip_rounds(watch, ahead - 1)
                before = fit
        return self.over

    def grows_too_long(self, fit):
        length = len(self.text) - len(fit.rule.left) + len(fit.rule.right)
        return length > LONGEST_TEXT * SIGNS_PER_BYTE

    def take_step(self, fit):
        behind = fit.place + len(fit.rule.left)
        self.text = self.text[:fit.place] + fit.rule.right + self.text[behind:]
        self.steps = self.steps + 1
        if fit.rule.last:
            self.over = OVER_BY_LAST

    def skip_rounds(self, watch, ahead):
        """How many steps are still to be walked, when whole rounds of them count as taken."""
        # A run that is over goes round no more, though its text be one that it had before.
        if self.over != NOT_OVER:
            return ahead
        length = watch.round_length(self.text)
        if length == 0:
            return ahead
        walked = ahead % length
        self.steps = self.steps + ahead - walked
        return walked
