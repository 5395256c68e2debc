"""How a line of a case's text is formed, whatever the lines before it say."""

from heardcase.verdicts import PROVED, REFUTED, OPEN

NAME_SIGNS = "abcdefghijklmnopqrstuvwxyz0123456789"
TEXT_SIGNS = "abcdefghijklmnopqrstuvwxyz0123456789 \n"
STRANGE_SIGN = "?"
LONGEST_NAME = 12
MOST_CONDITIONS = 8
MOST_WEIGHT = 9
MOST_POINTS = 99
NO_CLAIM_NAMES = ("not", "open", "if")

# Each kind of line by the words behind its first; conditions stand behind an "if".
FORMS = {
    "claim": ("claim",),
    "weight": ("who", "weight"),
    "says": ("who", "claim"),
    "denies": ("who", "claim"),
    "seen": ("claim",),
    "unseen": ("claim",),
    "for": ("claim", "if"),
    "against": ("claim", "if"),
    "penalty": ("who", "points", "if"),
    "redress": ("who", "if"),
}


class Line:
    """A formed line; who is its witness or its boat, amount its weight or its points."""

    def __init__(self, kind):
        self.kind = kind
        self.claim = ""
        self.who = ""
        self.amount = 0
        self.conditions = []


def signs_of(numbers):
    """The bytes as a text; a byte that is in no line becomes a sign that is in no line."""
    signs = {}
    for sign in TEXT_SIGNS:
        signs[ord(sign)] = sign
    return "".join([signs.get(number, STRANGE_SIGN) for number in numbers])


def is_name(word):
    if len(word) < 1 or len(word) > LONGEST_NAME:
        return False
    for sign in word:
        if sign not in NAME_SIGNS:
            return False
    return True


def is_claim_name(word):
    return is_name(word) and word not in NO_CLAIM_NAMES


def number_from(word, most):
    """The number from 1 to most that the word is, or 0 if it is none."""
    # The length comes ahead of int, which refuses words of some thousand digits.
    if len(word) > len(str(most)) or not word.isdigit() or word.startswith("0"):
        return 0
    number = int(word)
    return number if number <= most else 0


def wanted_by(word):
    """What a condition that begins with this word wants its claim to be."""
    if word == "not":
        return REFUTED
    if word == "open":
        return OPEN
    return PROVED


def read_conditions(words):
    """The conditions as pairs (wanted, claim's name), or none at all if they are not formed."""
    conditions = []
    place = 0
    while place < len(words):
        wanted = wanted_by(words[place])
        if wanted != PROVED:
            place += 1
        if place == len(words) or not is_claim_name(words[place]):
            return []
        conditions.append((wanted, words[place]))
        place += 1
    return conditions if len(conditions) <= MOST_CONDITIONS else []


def fill_part(line, part, word):
    """Puts the word into the line as this part of it; tells if it is formed as one."""
    if part == "claim":
        line.claim = word
        return is_claim_name(word)
    if part == "who":
        line.who = word
        return is_name(word)
    if part == "if":
        return word == "if"
    line.amount = number_from(word, MOST_WEIGHT if part == "weight" else MOST_POINTS)
    return line.amount > 0


def read_line(signs):
    """The Line that these signs (without the line feed) are, or None if they are not formed."""
    # Where two blanks meet, or one stands at an end, the split leaves an empty word, which no part is.
    words = signs.split(" ")
    parts = FORMS.get(words[0])
    if parts is None or len(words) <= len(parts):
        return None
    line = Line(words[0])
    for place, part in enumerate(parts):
        if not fill_part(line, part, words[place + 1]):
            return None
    rest = words[len(parts) + 1:]
    if parts[-1] != "if":
        return line if len(rest) == 0 else None
    line.conditions = read_conditions(rest)
    return line if len(line.conditions) > 0 else None
