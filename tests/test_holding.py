"""take, more, text and sizes: which case the object holds."""

import unittest

from heardcase.desk import Desk
from tests.asking import SIZES, TEXT, WHY_CLASH, WHY_NO_STAND, WHY_NOT_FORMED, WHY_TOO_MUCH, ask, boat, claim, lines
from tests.asking import more, numbers, rules, take, told, turn, witness

FIRST = lines("claim a", "weight w 3", "says w a", "claim b", "for b if a", "penalty q 5 if b", "redress q if not b",
              "denies v b")
FIRST_LINES = 8
LOOK = [TEXT, SIZES, claim(0), claim(1), claim(1, 1), claim(0, 4), claim(2), rules(1), rules(1, 1), rules(0, 4),
        rules(2), boat("q"), boat("q", 1), boat("q", 4), boat("r"), boat(""), witness(0), witness(1), witness(2),
        turn(0), turn(1), turn(2)]
FIRST_LOOK = [told(FIRST), [0, 2, 2, 8], [0, 1, 3], [0, 1, 2], [0, 2, 3], [-8], [-4], [1, 4], [0], [-8], [-4],
              [0, 5, 0], [0, 0, 1], [-8], [0, 0, 0], [-8], told("w"), told("v"), [-4], [1, 1], [1, 1], [-4]]
NEW_LOOK = [[0], [0, 0, 0, 0], [-4], [-4], [-8], [-8], [-4], [-4], [-8], [-8], [-4], [0, 0, 0], [-8], [-8], [0, 0, 0],
            [-8], [-4], [-4], [-4], [-4], [-4], [-4]]
FAULTY = [
    ("claim q", 0, WHY_NOT_FORMED), ("claim q\n\n", 1, WHY_NOT_FORMED), ("says w q\n", 0, WHY_NO_STAND),
    ("claim q\nseen q\nunseen q\n", 2, WHY_CLASH), ("claim q\nclaim a2\nseen r\n", 2, WHY_NO_STAND),
    ("claim q\nweight x 2\nsays y q\nseen q\nfor q if q\n", 4, WHY_NO_STAND),
    ("claim q\npenalty q 9 if q\nredress q if open q\npenalty r 5 if open q\nclaim q\n", 4, WHY_CLASH),
]


class TakeTest(unittest.TestCase):
    def test_new_it_holds_the_case_of_no_lines(self):
        self.assertEqual(ask(*LOOK), NEW_LOOK)

    def test_take_holds_the_case(self):
        self.assertEqual(ask(take(FIRST), *LOOK), [[0]] + FIRST_LOOK)

    def test_another_take_holds_that_one_alone(self):
        other = lines("claim q", "denies x q")
        self.assertEqual(ask(take(FIRST), take(other), *LOOK), [[0]] + ask(take(other), *LOOK))
        self.assertEqual(ask(take(FIRST), take(""), *LOOK), [[0]] + ask(take(""), *LOOK))
        self.assertEqual(ask(take(FIRST), take(FIRST), *LOOK), [[0]] + ask(take(FIRST), *LOOK))

    def test_a_refused_take_leaves_the_case(self):
        held = ask(take(FIRST), *LOOK)[1:]
        for text, line, why in FAULTY:
            self.assertEqual(ask(take(FIRST), take(text), *LOOK), [[0], [-6, line, why]] + held, text)

    def test_a_refused_take_leaves_the_new_object(self):
        for text, line, why in FAULTY:
            self.assertEqual(ask(take(text), *LOOK), [[-6, line, why]] + ask(*LOOK), text)

    def test_sizes(self):
        text = lines("claim a", "claim b", "claim c", "weight w 2", "says v a", "denies w a", "seen b", "unseen c",
                     "for b if a", "against c if not a open b", "penalty boat 7 if a", "redress boat if a")
        self.assertEqual(ask(take(text), SIZES)[1], [0, 3, 2, 12])
        for count in range(13):
            part = "".join(text.splitlines(keepends=True)[:count])
            witnesses = 0 if count < 4 else 1 if count < 5 else 2
            self.assertEqual(ask(take(part), SIZES), [[0], [0, min(count, 3), witnesses, count]])


class MoreTest(unittest.TestCase):
    def test_more_stands_behind_the_held_text(self):
        rows = FIRST.splitlines(keepends=True)
        whole = ask(take(FIRST), *LOOK)
        for cut in range(len(rows) + 1):
            first, second = "".join(rows[:cut]), "".join(rows[cut:])
            self.assertEqual(ask(take(first), more(second), *LOOK), [[0]] + whole)

    def test_more_line_by_line_on_the_new_object(self):
        rows = FIRST.splitlines(keepends=True)
        split = ask(*[more(row) for row in rows], *LOOK)
        self.assertEqual(split, [[0]] * len(rows) + ask(take(FIRST), *LOOK)[1:])

    def test_all_calls_behind_a_more_that_is_taken(self):
        before = lines("claim a", "says w2 a", "claim b", "for b if a", "redress q if b")
        behind = lines("says w a", "against b if a", "claim c", "denies v c", "penalty q 7 if open b")
        calls = [claim(1), rules(1), boat("q"), witness(1), turn(0), turn(1), turn(2), SIZES]
        answered = ask(take(before), *calls, more(behind), *calls)
        self.assertEqual(answered[1:9], [[0, 1, 2], [1, 3], [0, 0, 1], [-4], [1, 1], [1, 1], [-4], [0, 2, 1, 5]])
        self.assertEqual(answered[9:], [[0], [0, 3, 2], [2, 3, 6], [0, 7, 0], told("w"), [2, 3], [-3], [1, 4],
                                        [0, 3, 3, 10]])

    def test_more_of_nothing(self):
        self.assertEqual(ask(take(FIRST), more(""), *LOOK), [[0]] + ask(take(FIRST), *LOOK))
        self.assertEqual(ask(more(""), *LOOK), [[0]] + ask(*LOOK))

    def test_faults_by_the_numbers_of_the_whole_text(self):
        for text, line, why in FAULTY:
            self.assertEqual(ask(take(FIRST), more(text))[1], [-6, FIRST_LINES + line, why], text)
        for text, line, why in [("claim a\n", 8, WHY_CLASH), ("says q b\nsays w a\n", 9, WHY_CLASH),
                                ("weight v 2\n", 8, WHY_CLASH), ("for a if b\n", 8, WHY_NO_STAND)]:
            self.assertEqual(ask(take(FIRST), more(text))[1], [-6, line, why], text)

    def test_a_refused_more_leaves_the_case(self):
        held = ask(take(FIRST), *LOOK)[1:]
        for text, line, why in FAULTY:
            self.assertEqual(ask(take(FIRST), more(text), *LOOK), [[0], [-6, FIRST_LINES + line, why]] + held, text)

    def test_what_a_refused_more_told_can_be_told_again(self):
        text = lines("claim q", "says x q", "seen q")
        refused, taken, sizes = ask(more(text + "claim"), more(text), SIZES)
        self.assertEqual([refused, taken, sizes], [[-6, 3, WHY_NOT_FORMED], [0], [0, 1, 1, 3]])

    def test_too_much_is_of_the_whole_text(self):
        claims = lines(*[f"claim c{k}" for k in range(64)])
        self.assertEqual(ask(take(claims), more("claim q\n"), SIZES)[1:], [[-6, 64, WHY_TOO_MUCH], [0, 64, 0, 64]])
        witnesses = lines(*[f"weight w{k} 2" for k in range(8)])
        self.assertEqual(ask(take(witnesses), more("weight q 1\n"))[1], [-6, 8, WHY_TOO_MUCH])
        full = "claim a\n" + lines(*["redress boat if a"] * 511)
        self.assertEqual(ask(take(full), more("seen a\n"), more(""))[1:], [[-6, 512, WHY_TOO_MUCH], [0]])

    def test_claims_reach_back_over_more(self):
        answered = ask(take("claim a\n"), more("seen a\n"), more("claim b\n"), more("against b if a\n"), claim(1))
        self.assertEqual(answered, [[0], [0], [0], [0], [0, 2, 2]])


class TextTest(unittest.TestCase):
    def test_the_text_is_answered_byte_by_byte(self):
        for text in ["", "claim a\n", FIRST, lines("claim 007", "penalty x 99 if not 007")]:
            self.assertEqual(ask(take(text), TEXT)[1], told(text))
        self.assertEqual(ask(take(FIRST), more("claim c\n"), TEXT)[2], told(FIRST + "claim c\n"))

    def test_a_text_that_was_answered_is_taken_again(self):
        first = ask(take(FIRST), more(lines("claim c", "seen c", "penalty x 9 if c")), *LOOK)[2:]
        again = first[0][1:]
        self.assertEqual(first[0][0], len(again))
        self.assertEqual(ask(take(again), *LOOK), [[0]] + first)


class TooLongTest(unittest.TestCase):
    """The list of calls is too short for -2, so the object is asked itself."""

    def test_take(self):
        desk = Desk()
        longest = numbers("claim a\n") + [0] * (65536 - 8)
        self.assertEqual(desk.take(longest), [-6, 1, WHY_NOT_FORMED])
        self.assertEqual(desk.take(longest + [0]), [-2])
        self.assertEqual(desk.tell_text(), [0])

    def test_more(self):
        desk = Desk()
        self.assertEqual(desk.take(numbers("claim a\n")), [0])
        self.assertEqual(desk.more([0] * (65536 - 8)), [-6, 1, WHY_NOT_FORMED])
        self.assertEqual(desk.more([0] * (65536 - 7)), [-2])
        self.assertEqual(desk.tell_text(), told("claim a\n"))


if __name__ == "__main__":
    unittest.main()
