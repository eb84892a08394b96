"""Noticing that a run goes round and round."""


class RoundWatch:
    """Keeps one text of a run, and notices when the run comes back to it.

    What comes of a text depends on nothing but the text and the rules. So a run that has
    come back goes round for good, and whole rounds need not be walked.
    """

    def __init__(self, text):
        self.kept = text
        self.age = 0
        self.span = 1

    def round_length(self, text):
        """To be asked after each step: how many steps the round has, or 0 if none is noticed."""
        self.age = self.age + 1
        if text == self.kept:
            length = self.age
            self.age = 0
            return length
        if self.age == self.span:
            # The first texts may lie ahead of the round, and the round may be long:
            # so another text is kept now and then, each for twice as long.
            self.kept = text
            self.age = 0
            self.span = self.span * 2
        return 0
