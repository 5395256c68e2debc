"""Which fault of a text is told: its line, and why."""

import unittest

from tests.asking import SIZES, WHY_CLASH, WHY_NO_STAND, WHY_NOT_FORMED, WHY_TOO_MUCH, ask, fault, lines, take

CLAIMS_64 = lines(*[f"claim c{k}" for k in range(64)])
WITNESSES_8 = "claim a\n" + lines(*[f"says w{k} a" for k in range(8)])
LINES_512 = "claim a\nclaim b\n" + lines(*["for b if a"] * 510)


class CannotStandTest(unittest.TestCase):
    def no_stand(self, before, line):
        self.assertEqual(fault(before + line + "\n"), (before.count("\n"), WHY_NO_STAND), line)

    def test_a_claim_that_is_none(self):
        for line in ["says w x", "denies w x", "seen x", "unseen x", "for x if a", "against x if a", "for b if x",
                     "against b if not x", "for b if open x", "for b if a x", "penalty boat 1 if x",
                     "penalty boat 1 if a not x", "redress boat if x", "redress boat if a open x"]:
            self.no_stand("claim a\nclaim b\n", line)

    def test_a_claim_told_only_later(self):
        for line in ["says w x", "seen x", "for x if a", "for b if x", "penalty boat 1 if x", "redress boat if x"]:
            text = lines("claim a", "claim b", line, "claim x")
            self.assertEqual(fault(text), (2, WHY_NO_STAND), line)

    def test_no_claim_at_all(self):
        for line in ["says w x", "denies w x", "seen x", "unseen x", "for x if y", "against x if x",
                     "penalty boat 1 if x", "redress boat if x"]:
            self.no_stand("", line)

    def test_a_witness_or_boat_is_no_claim(self):
        self.no_stand("claim a\nweight w 2\n", "seen w")
        self.no_stand("claim a\nsays w a\n", "says a w")
        self.no_stand("claim a\nredress boat if a\n", "redress boat if boat")

    def test_a_condition_on_the_own_claim_or_one_behind_it(self):
        before = lines("claim a", "claim b", "claim c")
        for kind in ["for", "against"]:
            for sort in ["", "not ", "open "]:
                self.no_stand(before, f"{kind} b if {sort}b")
                self.no_stand(before, f"{kind} b if {sort}c")
                self.no_stand(before, f"{kind} b if a {sort}b")
                self.no_stand(before, f"{kind} b if {sort}c a")
                self.no_stand(before, f"{kind} a if {sort}a")
                self.assertIsNone(fault(before + f"{kind} b if {sort}a\n"))
                self.assertIsNone(fault(before + f"{kind} c if {sort}a {sort}b\n"))

    def test_penalty_and_redress_take_any_claim_told_before(self):
        before = lines("claim a", "claim b", "claim c")
        self.assertIsNone(fault(before + lines("penalty a 1 if c b a", "redress a if c not b open a")))


class ClashTest(unittest.TestCase):
    def clash(self, *rows):
        self.assertEqual(fault(lines(*rows)), (len(rows) - 1, WHY_CLASH), rows)

    def test_a_claim_told_twice(self):
        self.clash("claim a", "claim a")
        self.clash("claim a", "claim b", "says w a", "claim a")

    def test_a_weight_told_already(self):
        self.clash("weight w 2", "weight w 2")
        self.clash("weight w 2", "weight v 2", "weight w 3")

    def test_a_weight_of_one_who_has_spoken(self):
        self.clash("claim a", "says w a", "weight w 2")
        self.clash("claim a", "denies w a", "weight w 2")
        self.clash("claim a", "weight w 2", "says w a", "weight w 2")
        self.assertIsNone(fault(lines("claim a", "weight w 2", "says w a", "weight v 2", "denies v a")))

    def test_said_or_denied_already(self):
        for first in ["says", "denies"]:
            for second in ["says", "denies"]:
                self.clash("claim a", f"{first} w a", f"{second} w a")
                self.clash("claim a", "claim b", f"{first} w a", f"{second} w b", f"{second} v a", f"{second} w a")

    def test_seen_or_unseen_already(self):
        for first in ["seen", "unseen"]:
            for second in ["seen", "unseen"]:
                self.clash("claim a", f"{first} a", f"{second} a")
                self.assertIsNone(fault(lines("claim a", "claim b", f"{first} a", f"{second} b")))

    def test_what_does_not_clash(self):
        self.assertIsNone(fault(lines(
            "claim a", "claim b", "weight a 2", "says a a", "seen a", "says a b", "denies w a", "for b if a",
            "for b if a", "against b if a", "penalty a 3 if a", "penalty a 3 if a", "redress a if a", "redress a if a",
        )))


class TooMuchTest(unittest.TestCase):
    def test_claims(self):
        self.assertEqual(ask(take(CLAIMS_64), SIZES), [[0], [0, 64, 0, 64]])
        self.assertEqual(fault(CLAIMS_64 + "claim c64\n"), (64, WHY_TOO_MUCH))
        self.assertEqual(fault(CLAIMS_64 + "seen c63\nclaim c64\n"), (65, WHY_TOO_MUCH))

    def test_witnesses(self):
        self.assertEqual(ask(take(WITNESSES_8), SIZES), [[0], [0, 1, 8, 9]])
        for line in ["says w8 a", "denies w8 a", "weight w8 1"]:
            self.assertEqual(fault(WITNESSES_8 + line + "\n"), (9, WHY_TOO_MUCH), line)
        self.assertIsNone(fault(WITNESSES_8 + lines("claim b", "says w0 b", "denies w7 b")))

    def test_witnesses_named_in_weight_count(self):
        weighed = "claim a\n" + lines(*[f"weight w{k} 1" for k in range(8)])
        self.assertEqual(ask(take(weighed), SIZES), [[0], [0, 1, 8, 9]])
        for line in ["says w8 a", "denies w8 a", "weight w8 1"]:
            self.assertEqual(fault(weighed + line + "\n"), (9, WHY_TOO_MUCH), line)
        self.assertIsNone(fault(weighed + "says w7 a\n"))

    def test_boats_are_no_witnesses(self):
        boats = lines(*[f"penalty b{k} 1 if a" for k in range(9)], *[f"redress d{k} if a" for k in range(9)])
        self.assertEqual(ask(take(WITNESSES_8 + boats), SIZES), [[0], [0, 1, 8, 27]])

    def test_lines(self):
        self.assertEqual(ask(take(LINES_512), SIZES), [[0], [0, 2, 0, 512]])
        for line in ["claim c", "weight w 1", "says w a", "denies w a", "seen a", "unseen a", "for b if a",
                     "against b if a", "penalty w 1 if a", "redress w if a"]:
            self.assertEqual(fault(LINES_512 + line + "\n"), (512, WHY_TOO_MUCH), line)
            before = LINES_512[:-len("for b if a\n")]
            self.assertEqual(ask(take(before + line + "\n"))[0], [0], line)

    def test_lines_that_tell_no_claim_count(self):
        for line in ["penalty w 1 if a", "redress w if a"]:
            text = "claim a\n" + lines(*[line] * 511)
            self.assertEqual(ask(take(text), SIZES), [[0], [0, 1, 0, 512]])
            self.assertEqual(fault(text + line + "\n"), (512, WHY_TOO_MUCH))


class OrderOfReasonsTest(unittest.TestCase):
    def test_not_formed_ahead_of_all(self):
        self.assertEqual(fault("claim a\nclaim a"), (1, WHY_NOT_FORMED))
        self.assertEqual(fault("says w x"), (0, WHY_NOT_FORMED))
        self.assertEqual(fault("claim a\nfor a if x not\n"), (1, WHY_NOT_FORMED))
        self.assertEqual(fault("claim a\nweight w 1\nweight w 0\n"), (2, WHY_NOT_FORMED))
        self.assertEqual(fault(CLAIMS_64 + "claim c64"), (64, WHY_NOT_FORMED))
        self.assertEqual(fault(CLAIMS_64 + "claim not\n"), (64, WHY_NOT_FORMED))
        self.assertEqual(fault(WITNESSES_8 + "weight w8 0\n"), (9, WHY_NOT_FORMED))
        self.assertEqual(fault(LINES_512 + "for b if a"), (512, WHY_NOT_FORMED))
        self.assertEqual(fault(LINES_512 + "\n"), (512, WHY_NOT_FORMED))

    def test_cannot_stand_ahead_of_too_much(self):
        self.assertEqual(fault(WITNESSES_8 + "says w8 x\n"), (9, WHY_NO_STAND))
        self.assertEqual(fault(WITNESSES_8 + "denies w8 x\n"), (9, WHY_NO_STAND))
        self.assertEqual(fault(LINES_512 + "for b if b\n"), (512, WHY_NO_STAND))
        self.assertEqual(fault(LINES_512 + "penalty w 1 if x\n"), (512, WHY_NO_STAND))
        self.assertEqual(fault(LINES_512 + "redress w if x\n"), (512, WHY_NO_STAND))

    def test_clash_ahead_of_too_much(self):
        self.assertEqual(fault(CLAIMS_64 + "claim c0\n"), (64, WHY_CLASH))
        self.assertEqual(fault(CLAIMS_64 + "claim c63\n"), (64, WHY_CLASH))
        self.assertEqual(fault(LINES_512 + "claim a\n"), (512, WHY_CLASH))
        seen = "claim a\nclaim b\nseen a\nsays w a\n" + lines(*["for b if a"] * 508)
        for line in ["unseen a", "denies w a", "weight w 2"]:
            self.assertEqual(fault(seen + line + "\n"), (512, WHY_CLASH), line)

    def test_the_513th_line_of_a_9th_witness_or_65th_claim(self):
        full = CLAIMS_64 + lines(*[f"says w{k} c0" for k in range(8)])
        full += lines(*["redress boat if c0"] * (512 - full.count("\n")))
        self.assertEqual(fault(full), None)
        self.assertEqual(fault(full + "says w8 c0\n"), (512, WHY_TOO_MUCH))
        self.assertEqual(fault(full + "claim c64\n"), (512, WHY_TOO_MUCH))
        self.assertEqual(fault(full + "says w8 c64\n"), (512, WHY_NO_STAND))


class FirstLineTest(unittest.TestCase):
    def test_the_first_of_several_faulty_lines(self):
        faulty = {WHY_NOT_FORMED: "claim", WHY_NO_STAND: "seen x", WHY_CLASH: "claim a"}
        for why, first in faulty.items():
            for second in faulty.values():
                self.assertEqual(fault(lines("claim a", first, second)), (1, why))
                self.assertEqual(fault(lines("claim a", first) + "claim b"), (1, why))
        self.assertEqual(fault(CLAIMS_64 + lines("claim c64", "claim", "claim c0")), (64, WHY_TOO_MUCH))
        self.assertEqual(fault(LINES_512 + lines("for b if a", "claim", "claim a")), (512, WHY_TOO_MUCH))

    def test_a_faulty_line_ahead_of_what_is_too_much(self):
        self.assertEqual(fault("seen x\n" + LINES_512 + LINES_512), (0, WHY_NO_STAND))

    def test_the_number_counts_from_0(self):
        for count in range(10):
            text = lines(*[f"claim c{k}" for k in range(count)])
            self.assertEqual(fault(text + "claim\n"), (count, WHY_NOT_FORMED))
            self.assertEqual(fault(text + "claim q"), (count, WHY_NOT_FORMED))

    def test_the_text_of_no_lines_is_a_case(self):
        self.assertEqual(ask(take(""), SIZES), [[0], [0, 0, 0, 0]])


if __name__ == "__main__":
    unittest.main()
