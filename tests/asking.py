"""What the tests share: calls as lists, and answers one by one."""

from heardcase.desk import answers

TEXT = [2]
SIZES = [3]
LAST = 4294967295
WHY_NOT_FORMED, WHY_TOO_MUCH, WHY_NO_STAND, WHY_CLASH = 1, 2, 3, 4
PROVED, REFUTED, OPEN = 1, 2, 3
BY_SIGHT, BY_RULES, BY_WITNESSES = 1, 2, 3


def numbers(text):
    return list(text.encode("latin-1")) if isinstance(text, str) else list(text)


def take(text):
    return [0, len(numbers(text))] + numbers(text)


def more(text):
    return [1, len(numbers(text))] + numbers(text)


def claim(number, without=0):
    return [4, number, without]


def rules(number, without=0):
    return [5, number, without]


def boat(name, without=0):
    return [6, without, len(numbers(name))] + numbers(name)


def witness(number):
    return [7, number]


def turn(number):
    return [8, number]


def told(text):
    """The answer of text where this is the held case's text."""
    return [len(numbers(text))] + numbers(text)


def lines(*rows):
    return "".join(row + "\n" for row in rows)


def ask(*calls):
    """The answers to these calls, a list for each."""
    flat = answers([number for call in calls for number in call])
    split = []
    place = 0
    while place < len(flat):
        count = flat[place]
        split.append(flat[place + 1:place + 1 + count])
        place += 1 + count
    if place != len(flat) or len(split) != len(calls):
        raise AssertionError(f"{len(calls)} calls, but answered was {flat}")
    return split


def fault(text):
    """The fault of a text as (line, why), or None if it is a case."""
    answer = ask(take(text))[0]
    if answer == [0]:
        return None
    if len(answer) != 3 or answer[0] != -6:
        raise AssertionError(f"take answered {answer}")
    return (answer[1], answer[2])


def of_case(text, call):
    """What this call answers of the case of this text."""
    taken, answer = ask(take(text), call)
    if taken != [0]:
        raise AssertionError(f"take answered {taken}")
    return answer


def settled(text, number=0, without=0):
    """A claim's (verdict, settled by) in the case of this text."""
    answer = of_case(text, claim(number, without))
    if len(answer) != 3 or answer[0] != 0:
        raise AssertionError(f"claim answered {answer}")
    return (answer[1], answer[2])
