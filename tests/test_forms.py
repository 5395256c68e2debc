"""Lines that are formed, and lines that are not."""

import unittest

from tests.asking import WHY_NOT_FORMED, ask, fault, lines, numbers, take

CLAIMS = ["a", "b", "c", "d", "e", "f", "g", "h", "i", "z"]
BEFORE = lines(*["claim " + name for name in CLAIMS])
EIGHT = "a b c d e f g h"

FORMED = [
    "claim new", "claim 0", "claim 007", "claim claim", "claim says", "claim nota", "claim n0t", "claim opens",
    "weight w 1", "weight w 9", "weight not 5", "weight open 5", "weight if 5", "weight 1 1",
    "says w a", "denies w a", "says not a", "denies open a", "says if a", "says a a",
    "seen a", "unseen a",
    "for z if a", "against z if a", "for z if not a", "for z if open a", "against z if a not b open c",
    "for z if a a a", "for z if a not a open a",
    "penalty boat 1 if a", "penalty boat 99 if not a", "penalty boat 10 if open z", "penalty not 9 if a",
    "penalty if 1 if a", "penalty 12 12 if a",
    "redress boat if a", "redress boat if not a open b c", "redress if if a", "redress open if a",
]

NOT_FORMED = [
    "", " ", "  ", "a", "claims a", "Claim new", "clai", "if a",
    "claim", "claim ", "claim new more", "weight", "weight w", "weight w ", "weight 3", "weight w 3 3", "weight w a",
    "says", "says w", "says w ", "says w a b", "denies", "denies w", "denies w a b",
    "seen", "seen a b", "unseen", "unseen a b", "seen w a if",
    "for", "for z", "for z if", "for z if ", "for z a", "for if a", "for z when a", "for z a if",
    "against", "against z", "against z if", "against z a", "against z fi a",
    "penalty", "penalty boat", "penalty boat 1", "penalty boat 1 if", "penalty boat 1 a", "penalty boat if a",
    "penalty 1 if a", "penalty boat 1 2 if a", "penalty boat x if a",
    "redress", "redress boat", "redress boat if", "redress boat a", "redress if a", "redress boat 1 if a",
]

# Each has one %s where a claim's name stands.
NAMES_A_CLAIM = [
    "claim %s", "says w %s", "denies w %s", "seen %s", "unseen %s", "for %s if a", "against %s if a",
    "for z if %s", "for z if not %s", "for z if open %s", "for z if a %s not b", "against z if a not %s",
    "penalty boat 1 if %s", "penalty boat 1 if not %s", "penalty boat 1 if a open %s",
    "redress boat if %s", "redress boat if not %s", "redress boat if open %s",
]
NAMES_A_WITNESS_OR_BOAT = ["weight %s 2", "says %s a", "denies %s a", "penalty %s 3 if a", "redress %s if a"]
HAS_CONDITIONS = ["for z if", "against z if", "penalty boat 3 if", "redress boat if"]


class FormsTest(unittest.TestCase):
    def formed(self, line):
        self.assertIsNone(fault(BEFORE + line + "\n"), line)

    def not_formed(self, line):
        self.assertEqual(fault(BEFORE + line + "\n"), (len(CLAIMS), WHY_NOT_FORMED), line)

    def test_formed(self):
        for line in FORMED:
            self.formed(line)

    def test_not_formed(self):
        for line in NOT_FORMED:
            self.not_formed(line)

    def test_blanks(self):
        for line in FORMED:
            self.not_formed(" " + line)
            self.not_formed(line + " ")
            self.not_formed(line.replace(" ", "  ", 1))
            self.not_formed("  ".join(line.rsplit(" ", 1)))
            self.not_formed(line.replace(" ", "\t", 1))
            self.not_formed(line.replace(" ", "", 1))

    def test_lengths_of_claim_names(self):
        longest = "abcdefghij89"
        for form in NAMES_A_CLAIM:
            for name in ["q", longest]:
                before = BEFORE if form == "claim %s" else BEFORE.replace("claim z\n", f"claim {name}\nclaim z\n")
                self.assertIsNone(fault(before + lines(form % name)), form)
            self.not_formed(form % "")
            self.not_formed(form % (longest + "x"))

    def test_lengths_of_other_names(self):
        for form in NAMES_A_WITNESS_OR_BOAT:
            self.formed(form % "q")
            self.formed(form % "0")
            self.formed(form % "abcdefghij89")
            self.not_formed(form % "")
            self.not_formed(form % "abcdefghij89x")
            self.not_formed(form % ("a" * 5000))

    def test_signs_of_names(self):
        for form in NAMES_A_CLAIM + NAMES_A_WITNESS_OR_BOAT:
            for sign in "AZ`{/:_-.?":
                self.not_formed(form % sign)
                self.not_formed(form % ("a" + sign + "a"))

    def test_names_that_no_claim_has(self):
        for form in NAMES_A_CLAIM:
            for name in ["not", "open", "if"]:
                self.not_formed(form % name)

    def test_names_that_witnesses_and_boats_may_have(self):
        for form in NAMES_A_WITNESS_OR_BOAT:
            for name in ["not", "open", "if", "claim"]:
                self.formed(form % name)

    def test_conditions_of_two_words_want_their_claim(self):
        for start in HAS_CONDITIONS:
            for end in ["not", "open", "a not", "a open", "not not a", "not open a", "open not a", "open open a",
                        "if a", "a if b", "not if a"]:
                self.not_formed(start + " " + end)

    def test_how_many_conditions(self):
        for start in HAS_CONDITIONS:
            self.not_formed(start)
            self.formed(start + " a")
            self.formed(start + " " + EIGHT)
            self.formed(start + " not " + EIGHT.replace(" ", " not "))
            self.not_formed(start + " " + EIGHT + " a")
            self.not_formed(start + " not " + EIGHT.replace(" ", " open ") + " not i")
            self.not_formed(start + " a" * 5000)

    def test_weights(self):
        for weight in "123456789":
            self.formed("weight w " + weight)
        for weight in ["0", "00", "01", "09", "10", "11", "99", "-1", "+1", "1.0", "1a", "a1", "", "9" * 5000]:
            self.not_formed("weight w " + weight)

    def test_points(self):
        for points in range(1, 100):
            self.formed(f"penalty boat {points} if a")
        for points in ["0", "00", "01", "09", "099", "001", "100", "101", "999", "-1", "+1", "1x", "x", "",
                       "1" * 5000]:
            self.not_formed(f"penalty boat {points} if a")

    def test_last_line_without_line_feed(self):
        for line in FORMED:
            self.assertEqual(fault(BEFORE + line), (len(CLAIMS), WHY_NOT_FORMED), line)
        self.assertEqual(fault("claim a"), (0, WHY_NOT_FORMED))
        self.assertEqual(fault("c"), (0, WHY_NOT_FORMED))
        self.assertEqual(fault(" "), (0, WHY_NOT_FORMED))

    def test_empty_lines(self):
        self.assertEqual(fault("\n"), (0, WHY_NOT_FORMED))
        self.assertEqual(fault("\n\n"), (0, WHY_NOT_FORMED))
        self.assertEqual(fault("\nclaim a\n"), (0, WHY_NOT_FORMED))
        self.assertEqual(fault("claim a\n\n"), (1, WHY_NOT_FORMED))
        self.assertEqual(fault("claim a\n\nclaim b\n"), (1, WHY_NOT_FORMED))

    def test_bytes_that_are_in_no_line(self):
        allowed = numbers("abcdefghijklmnopqrstuvwxyz0123456789")
        for byte in range(256):
            named = numbers("claim x\nclaim y") + [byte] + numbers("\n")
            answer = ask(take(named))[0]
            if byte in allowed:
                self.assertEqual(answer, [0], byte)
            elif byte == 10:
                self.assertEqual(answer, [-6, 2, WHY_NOT_FORMED], byte)
            else:
                self.assertEqual(answer, [-6, 1, WHY_NOT_FORMED], byte)
            alone = ask(take([byte, 10]))[0]
            self.assertEqual(alone, [-6, 0, WHY_NOT_FORMED], byte)

    def test_other_row_ends_are_none(self):
        for end in ["\r\n", "\r", "\x0b", "\x0c", "\x1c", "\x85", "\x00"]:
            self.assertEqual(fault("claim a" + end + "claim b\n"), (0, WHY_NOT_FORMED), end)
            self.assertEqual(fault("claim a" + end), (0, WHY_NOT_FORMED), end)


if __name__ == "__main__":
    unittest.main()
