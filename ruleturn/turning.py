"""Rules and a text that are kept, and the steps that are taken."""

from ruleturn.fitting import Rule, next_fit, shortens, turned
from ruleturn.joining import do_join
from ruleturn.rounds import RoundWatch
from ruleturn.signs import SIGNS_PER_BYTE, read_back, written

LONGEST_SIDE = 32
MOST_RULES = 64
LONGEST_TEXT = 8192
MOST_STEPS = 1000000
MOST_STEPS_TOLD = 1000000000
PLACES_PER_RULE = 16384

NOT_OVER = 0
OVER_NO_FIT = 1
OVER_BY_LAST = 2

DONE = 0
OUT_OF_RANGE = -1
NO_ROOM = -2
NO_NEXT_STEP = -1
NOT_SHORTENING = -2


class Turning:
    """The rules, the text, how the run is over, and how many steps were taken on the text.

    joined is what was told of the rules as they are now by joins, or None.
    """

    def __init__(self):
        self.rules = []
        self.joined = None
        self.text = ""
        self.over = NOT_OVER
        self.steps = 0

    def begin(self):
        self.rules = []
        self.joined = None
        self.start_anew("")
        return DONE

    def add_rule(self, left, right, stop):
        if len(left) > LONGEST_SIDE or len(right) > LONGEST_SIDE or stop not in (0, 1):
            return OUT_OF_RANGE
        if len(self.rules) >= MOST_RULES:
            return NO_ROOM
        self.rules.append(Rule(written(left), written(right), stop == 1))
        self.joined = None
        return len(self.rules) - 1

    def give_text(self, row):
        if len(row) > LONGEST_TEXT:
            return OUT_OF_RANGE
        self.start_anew(written(row))
        return DONE

    def start_anew(self, text):
        self.text = text
        self.over = NOT_OVER
        self.steps = 0

    def run(self, count):
        if count < 0 or count > MOST_STEPS:
            return OUT_OF_RANGE
        watch = RoundWatch(self.text)
        before = None
        ahead = count
        while ahead > 0 and self.over == NOT_OVER:
            fit = next_fit(self.rules, self.text, before)
            if fit is None:
                self.over = OVER_NO_FIT
            elif self.grows_too_long(fit):
                return NO_ROOM
            else:
                self.take_step(fit)
                ahead = self.skip_rounds(watch, ahead - 1)
                before = fit
        return self.over

    def grows_too_long(self, fit):
        length = len(self.text) - len(fit.rule.left) + len(fit.rule.right)
        return length > LONGEST_TEXT * SIGNS_PER_BYTE

    def take_step(self, fit):
        self.text = turned(self.text, fit.rule, fit.place)
        self.steps = self.steps + 1
        if fit.rule.last:
            self.over = OVER_BY_LAST

    def skip_rounds(self, watch, ahead):
        """How many steps are still to be walked, when whole rounds of them count as taken."""
        # A run that is over goes round no more, though its text be one that it had before.
        if self.over != NOT_OVER:
            return ahead
        length = watch.round_length(self.text)
        if length == 0:
            return ahead
        walked = ahead % length
        self.steps = self.steps + ahead - walked
        return walked

    def tell_text(self, most):
        """A list: how long the text is, and its first bytes."""
        length = len(self.text) // SIGNS_PER_BYTE
        if most < 1 or most > LONGEST_TEXT:
            return [length]
        return [length] + read_back(self.text[:most * SIGNS_PER_BYTE])

    def tell_next(self):
        if self.over != NOT_OVER:
            return NO_NEXT_STEP
        fit = next_fit(self.rules, self.text, None)
        if fit is None:
            return NO_NEXT_STEP
        return PLACES_PER_RULE * fit.number + fit.place // SIGNS_PER_BYTE

    def tell_steps(self):
        return min(self.steps, MOST_STEPS_TOLD)

    def tell_joins(self):
        # Kept because it may take long, and may be asked again with the same rules.
        if self.joined is None:
            self.joined = self.find_joins()
        return self.joined

    def find_joins(self):
        for rule in self.rules:
            if not shortens(rule):
                return NOT_SHORTENING
        return 1 if do_join(self.rules) else 0
