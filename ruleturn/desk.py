"""The desk where calls are handed in and answers are given back."""

from ruleturn.reading import CallReader
from ruleturn.turning import Turning

BEGIN = 0
RULE = 1
TEXT = 2
RUN = 3
READ = 4
NEXT = 5
STEPS = 6
JOINS = 7


class UnknownCall(ValueError):
    """No call has this number."""


def answers(calls):
    """What each of the calls answers, with how many numbers that is before it."""
    turning = Turning()
    reader = CallReader(calls)
    given = []
    while reader.has_more():
        numbers = answer_next(turning, reader)
        given.append(len(numbers))
        given.extend(numbers)
    return given


def answer_next(turning, reader):
    call = reader.read_number()
    if call == BEGIN:
        return [turning.begin()]
    if call == RULE:
        return [answer_rule(turning, reader)]
    if call == TEXT:
        return [turning.give_text(reader.read_row())]
    if call == RUN:
        return [turning.run(reader.read_number())]
    if call == READ:
        return turning.tell_text(reader.read_number())
    if call == NEXT:
        return [turning.tell_next()]
    if call == STEPS:
        return [turning.tell_steps()]
    if call == JOINS:
        return [turning.tell_joins()]
    raise UnknownCall(f"no call has the number {call}")


def answer_rule(turning, reader):
    stop = reader.read_number()
    left = reader.read_row()
    right = reader.read_row()
    return turning.add_rule(left, right, stop)
