"""The calls on an object that holds a case."""

from heardcase.proof import settle
from heardcase.record import Case, enter_text

TAKE = 0
MORE = 1
TEXT = 2
SIZES = 3
CLAIM = 4

DONE = 0
TOO_LONG = -2
NO_SUCH = -4
FAULTY = -6
NO_WITNESS = -8

MOST_BYTES = 65536


class UnknownCall(ValueError):
    """A number stands for a call where none has this number."""


class Desk:
    """The object: it holds a case and the text that tells it. Each method gives an answer's numbers."""

    def __init__(self):
        self.text = []
        self.case = Case()

    def take(self, text):
        if len(text) > MOST_BYTES:
            return [TOO_LONG]
        case = Case()
        fault = enter_text(case, text)
        if len(fault) > 0:
            return [FAULTY] + fault
        self.text = text
        self.case = case
        return [DONE]

    def more(self, text):
        return self.take(self.text + text)

    def tell_text(self):
        return [len(self.text)] + self.text

    def tell_sizes(self):
        return [DONE, len(self.case.claims), len(self.case.weights), self.case.lines]

    def tell_claim(self, number, without):
        if without >= 1 << len(self.case.weights):
            return [NO_WITNESS]
        if number >= len(self.case.claims):
            return [NO_SUCH]
        outcome = settle(self.case, number, without)[number]
        return [DONE, outcome[0], outcome[1]]


def end_of_call(calls, start):
    """Where the call that begins at start ends in the list."""
    call = calls[start]
    if call in (TAKE, MORE):
        return start + 2 + calls[start + 1]
    if call in (TEXT, SIZES):
        return start + 1
    if call == CLAIM:
        return start + 3
    raise UnknownCall(f"no call has the number {call}")


def answer_of(desk, call):
    """The answer's numbers to one call, which is a list of its own."""
    if call[0] == TAKE:
        return desk.take(call[2:])
    if call[0] == MORE:
        return desk.more(call[2:])
    if call[0] == TEXT:
        return desk.tell_text()
    if call[0] == SIZES:
        return desk.tell_sizes()
    return desk.tell_claim(call[1], call[2])


def answers(calls):
    desk = Desk()
    told = []
    start = 0
    while start < len(calls):
        end = end_of_call(calls, start)
        answer = answer_of(desk, calls[start:end])
        told.append(len(answer))
        told.extend(answer)
        start = end
    return told
