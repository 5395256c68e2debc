"""A case as its lines tell it, and what is wrong with a line in a case."""

from heardcase.forms import read_line, signs_of
from heardcase.verdicts import PROVED, REFUTED, fact

MOST_CLAIMS = 64
MOST_WITNESSES = 8
MOST_LINES = 512

NOTHING_WRONG = 0
NOT_FORMED = 1
TOO_MUCH = 2
CANNOT_STAND = 3
CLASHES = 4


class Claim:
    """What is told of one claim.

    known is PROVED or REFUTED once it is seen or unseen, else 0. words has PROVED or REFUTED
    for each witness (by number) who says or denies it. rules are in the order of their lines.
    """

    def __init__(self):
        self.known = 0
        self.words = {}
        self.rules = []


class Rule:
    """A rule for or against a claim: its line's number, what it makes of the claim, the facts it needs."""

    def __init__(self, line_number, made, needed):
        self.line_number = line_number
        self.made = made
        self.needed = needed


class Boat:
    """What is told of one boat: pairs (points, needed facts), and the facts needed for redress."""

    def __init__(self):
        self.penalties = []
        self.redresses = []


class Case:
    """A case: its claims and witnesses by number, their numbers by name, and its boats by name."""

    def __init__(self):
        self.lines = 0
        self.claims = []
        self.claim_numbers = {}
        self.weights = []
        self.witness_numbers = {}
        self.boats = {}


def claim_of(case, line):
    return case.claims[case.claim_numbers[line.claim]]


def can_stand(case, line):
    numbers = case.claim_numbers
    if line.kind != "claim" and line.claim != "" and line.claim not in numbers:
        return False
    before = numbers[line.claim] if line.kind in ("for", "against") else len(numbers)
    for condition in line.conditions:
        if numbers.get(condition[1], before) >= before:
            return False
    return True


def clashes(case, line):
    if line.kind == "claim":
        return line.claim in case.claim_numbers
    if line.kind == "weight":
        # Who is known at all has a weight told already, or has said or denied something.
        return line.who in case.witness_numbers
    if line.kind in ("says", "denies"):
        return case.witness_numbers.get(line.who) in claim_of(case, line).words
    if line.kind in ("seen", "unseen"):
        return claim_of(case, line).known != 0
    return False


def is_too_much(case, line):
    if case.lines == MOST_LINES:
        return True
    if line.kind == "claim":
        return len(case.claims) == MOST_CLAIMS
    if line.kind in ("weight", "says", "denies"):
        return line.who not in case.witness_numbers and len(case.weights) == MOST_WITNESSES
    return False


def what_is_wrong(case, line):
    """Why the line can't come next in the case; the order of the reasons is the document's."""
    if line is None:
        return NOT_FORMED
    if not can_stand(case, line):
        return CANNOT_STAND
    if clashes(case, line):
        return CLASHES
    if is_too_much(case, line):
        return TOO_MUCH
    return NOTHING_WRONG


def enter_claim(case, name):
    case.claim_numbers[name] = len(case.claims)
    case.claims.append(Claim())


def enter_witness(case, name, weight):
    """Gives the witness's number; one who is known keeps number and weight."""
    if name not in case.witness_numbers:
        case.witness_numbers[name] = len(case.weights)
        case.weights.append(weight)
    return case.witness_numbers[name]


def enter_words(case, line):
    claim = claim_of(case, line)
    witness = enter_witness(case, line.who, 1)
    claim.words[witness] = PROVED if line.kind == "says" else REFUTED


def needed_by(case, line):
    """The facts without which not all of the line's conditions hold."""
    needed = 0
    for wanted, name in line.conditions:
        needed = needed | fact(wanted, case.claim_numbers[name])
    return needed


def enter_rule(case, line):
    claim = claim_of(case, line)
    made = PROVED if line.kind == "for" else REFUTED
    claim.rules.append(Rule(case.lines, made, needed_by(case, line)))


def enter_boat(case, line):
    boat = case.boats.setdefault(line.who, Boat())
    needed = needed_by(case, line)
    if line.kind == "penalty":
        boat.penalties.append((line.amount, needed))
    else:
        boat.redresses.append(needed)


def enter_line(case, line):
    """Puts a line with which nothing is wrong into the case."""
    if line.kind == "claim":
        enter_claim(case, line.claim)
    if line.kind == "weight":
        enter_witness(case, line.who, line.amount)
    if line.kind in ("says", "denies"):
        enter_words(case, line)
    if line.kind in ("seen", "unseen"):
        claim = claim_of(case, line)
        claim.known = PROVED if line.kind == "seen" else REFUTED
    if line.kind in ("for", "against"):
        enter_rule(case, line)
    if line.kind in ("penalty", "redress"):
        enter_boat(case, line)
    # Last, as up to here this is the line's own number.
    case.lines += 1


def enter_text(case, text):
    """Puts the lines of a text (a list of bytes) into the case.

    Gives the fault as a list of its line's number and why, or an empty list if there is none;
    at a fault the case is left with the lines before it.
    """
    lines = signs_of(text).split("\n")
    unended = lines.pop()
    for signs in lines:
        line = read_line(signs)
        wrong = what_is_wrong(case, line)
        if wrong != NOTHING_WRONG:
            return [case.lines, wrong]
        enter_line(case, line)
    if unended != "":
        return [case.lines, NOT_FORMED]
    return []
