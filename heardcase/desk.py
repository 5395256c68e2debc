"""The calls on an object that holds a case."""

from heardcase.forms import is_name, signs_of
from heardcase.proof import going_rules, has_redress, members_of, penalty_of, sets_of, settle
from heardcase.record import Boat, Case, enter_text

TAKE = 0
MORE = 1
TEXT = 2
SIZES = 3
CLAIM = 4
RULES = 5
BOAT = 6
WITNESS = 7
TURN = 8

DONE = 0
TOO_LONG = -2
NONE_TURNS = -3
NO_SUCH = -4
FAULTY = -6
WRONG_BITS_OR_NAME = -8

MOST_BYTES = 65536


class UnknownCall(ValueError):
    """A number stands for a call where none has this number."""


class Desk:
    """The object: it holds a case and the text that tells it. Each method that tells gives an answer's numbers."""

    def __init__(self):
        self.text = []
        self.case = Case()
        self.proofs = {}

    def take(self, text):
        if len(text) > MOST_BYTES:
            return [TOO_LONG]
        case = Case()
        fault = enter_text(case, text)
        if len(fault) > 0:
            return [FAULTY] + fault
        self.text = text
        self.case = case
        self.proofs = {}
        return [DONE]

    def more(self, text):
        return self.take(self.text + text)

    def proof_without(self, without):
        """The held case's Proof without these witnesses."""
        # Kept, as a turning set may be looked for among all sets, call after call.
        if without not in self.proofs:
            self.proofs[without] = settle(self.case, without)
        return self.proofs[without]

    def has_wrong_bit(self, without):
        return without >= 1 << len(self.case.weights)

    def tell_text(self):
        return [len(self.text)] + self.text

    def tell_sizes(self):
        return [DONE, len(self.case.claims), len(self.case.weights), self.case.lines]

    def tell_claim(self, number, without):
        if self.has_wrong_bit(without):
            return [WRONG_BITS_OR_NAME]
        if number >= len(self.case.claims):
            return [NO_SUCH]
        outcome = self.proof_without(without).outcomes[number]
        return [DONE, outcome[0], outcome[1]]

    def tell_rules(self, number, without):
        if self.has_wrong_bit(without):
            return [WRONG_BITS_OR_NAME]
        if number >= len(self.case.claims):
            return [NO_SUCH]
        rules = going_rules(self.case.claims[number], self.proof_without(without).facts)
        return [len(rules)] + [rule.line_number for rule in rules]

    def tell_boat(self, without, name):
        signs = signs_of(name)
        if self.has_wrong_bit(without) or not is_name(signs):
            return [WRONG_BITS_OR_NAME]
        boat = self.case.boats.get(signs, Boat())
        facts = self.proof_without(without).facts
        return [DONE, penalty_of(boat, facts), 1 if has_redress(boat, facts) else 0]

    def tell_witness(self, number):
        if number >= len(self.case.weights):
            return [NO_SUCH]
        name = list(self.case.witness_numbers)[number]
        return [len(name)] + [ord(sign) for sign in name]

    def tell_turn(self, number):
        if number >= len(self.case.claims):
            return [NO_SUCH]
        verdict = self.proof_without(0).outcomes[number][0]
        for bits in sets_of(len(self.case.weights)):
            if self.proof_without(bits).outcomes[number][0] != verdict:
                return [len(members_of(bits)), bits]
        return [NONE_TURNS]


def end_of_call(calls, start):
    """Where the call that begins at start ends in the list."""
    call = calls[start]
    if call in (TEXT, SIZES):
        return start + 1
    if call in (WITNESS, TURN):
        return start + 2
    if call in (CLAIM, RULES):
        return start + 3
    if call in (TAKE, MORE):
        return start + 2 + calls[start + 1]
    if call == BOAT:
        return start + 3 + calls[start + 2]
    raise UnknownCall(f"no call has the number {call}")


def answer_of(desk, call):
    """The answer's numbers to one call, which is a list of its own."""
    if call[0] == TAKE:
        return desk.take(call[2:])
    if call[0] == MORE:
        return desk.more(call[2:])
    if call[0] == TEXT:
        return desk.tell_text()
    if call[0] == SIZES:
        return desk.tell_sizes()
    if call[0] == CLAIM:
        return desk.tell_claim(call[1], call[2])
    if call[0] == RULES:
        return desk.tell_rules(call[1], call[2])
    if call[0] == BOAT:
        return desk.tell_boat(call[1], call[3:])
    if call[0] == WITNESS:
        return desk.tell_witness(call[1])
    return desk.tell_turn(call[1])


def answers(calls):
    desk = Desk()
    told = []
    start = 0
    while start < len(calls):
        end = end_of_call(calls, start)
        answer = answer_of(desk, calls[start:end])
        told.append(len(answer))
        told.extend(answer)
        start = end
    return told
