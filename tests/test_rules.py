"""rules: which rules for and against a claim go, by their lines' numbers."""

import unittest

from tests.asking import LAST, SIZES, TEXT, ask, claim, lines, of_case, rules, take, told

# Lines 0 to 5; yes is proved, no refuted, maybe open, x is claim 3.
KNOWN = lines("claim yes", "claim no", "claim maybe", "seen yes", "unseen no", "claim x")


def going(text, number=3, without=0):
    """The lines' numbers that rules answers."""
    answer = of_case(text, rules(number, without))
    if answer[0] != len(answer) - 1:
        raise AssertionError(f"rules answered {answer}")
    return answer[1:]


class HowManyTest(unittest.TestCase):
    def test_none(self):
        self.assertEqual(of_case(KNOWN, rules(3)), [0])
        self.assertEqual(of_case("claim a\n", rules(0)), [0])
        self.assertEqual(of_case(KNOWN + lines("for x if no", "against x if not yes", "says w x"), rules(3)), [0])

    def test_one(self):
        self.assertEqual(of_case(KNOWN + "for x if yes\n", rules(3)), [1, 6])
        self.assertEqual(of_case(KNOWN + "against x if yes\n", rules(3)), [1, 6])

    def test_several(self):
        text = KNOWN + lines("for x if yes", "for x if not no", "for x if open maybe")
        self.assertEqual(of_case(text, rules(3)), [3, 6, 7, 8])
        text = KNOWN + lines("against x if yes", "against x if not no", "against x if open maybe")
        self.assertEqual(of_case(text, rules(3)), [3, 6, 7, 8])

    def test_for_and_against_together(self):
        text = KNOWN + lines("against x if yes", "for x if yes", "against x if yes", "for x if yes")
        self.assertEqual(going(text), [6, 7, 8, 9])

    def test_the_same_rule_told_twice(self):
        self.assertEqual(going(KNOWN + lines("for x if yes", "for x if yes")), [6, 7])

    def test_those_that_do_not_go_are_left_out(self):
        text = KNOWN + lines("for x if no", "for x if yes", "against x if maybe", "against x if not no", "for x if no")
        self.assertEqual(going(text), [7, 9])

    def test_as_many_as_a_case_can_have(self):
        text = lines("claim a", "claim b", "seen a", *["for b if a"] * 509)
        self.assertEqual(going(text, 1), list(range(3, 512)))


class ConditionsTest(unittest.TestCase):
    def test_each_sort(self):
        holding = ["yes", "not no", "open maybe"]
        for condition in ["yes", "no", "maybe", "not yes", "not no", "not maybe", "open yes", "open no", "open maybe"]:
            for kind in ["for", "against"]:
                expected = [6] if condition in holding else []
                self.assertEqual(going(KNOWN + f"{kind} x if {condition}\n"), expected, condition)

    def test_all_must_hold(self):
        self.assertEqual(going(KNOWN + "for x if yes not no open maybe\n"), [6])
        for wrong in range(8):
            conditions = ["not no"] * 8
            conditions[wrong] = "no"
            self.assertEqual(going(KNOWN + f"against x if {' '.join(conditions)}\n"), [])
        for contrary in ["yes not yes", "yes open yes", "not maybe open maybe", "no not no"]:
            self.assertEqual(going(KNOWN + f"for x if {contrary}\n"), [])

    def test_a_condition_told_twice(self):
        self.assertEqual(going(KNOWN + "for x if yes yes not no yes\n"), [6])

    def test_on_a_claim_that_rules_or_witnesses_settle(self):
        text = KNOWN + lines("for x if yes", "against x if yes", "claim y", "for y if open x", "against y if x")
        self.assertEqual(going(text, 4), [9])
        text = KNOWN + lines("denies w x", "claim y", "for y if not x", "for y if open x")
        self.assertEqual(going(text, 4), [8])

    def test_on_claims_of_every_number(self):
        claims = [f"claim c{k}" for k in range(64)]
        for k in range(63):
            text = lines(*claims, f"seen c{k}", f"for c63 if c{k}", f"for c63 if open c{k}", f"for c63 if not c{k}")
            self.assertEqual(going(text, 63), [65])


class WhichTest(unittest.TestCase):
    def test_a_seen_or_unseen_claim_has_its_rules_too(self):
        both = lines("for x if yes", "against x if yes", "for x if no")
        self.assertEqual(going(KNOWN + both + "seen x\n"), [6, 7])
        self.assertEqual(going(KNOWN + both + "unseen x\n"), [6, 7])
        self.assertEqual(going(KNOWN + "seen x\n" + both), [7, 8])
        self.assertEqual(going(KNOWN + lines("unseen x", "for x if no")), [])

    def test_rules_of_other_claims_are_not_told(self):
        text = KNOWN + lines("claim y", "for y if yes", "for x if yes", "against y if x", "for maybe if yes")
        self.assertEqual(going(text, 2), [10])
        self.assertEqual(going(text, 3), [8])
        self.assertEqual(going(text, 4), [7, 9])
        self.assertEqual(going(text, 0), [])

    def test_numbers_are_among_all_lines(self):
        text = lines("claim a", "weight w 2", "claim b", "for b if open a", "says w b", "claim c", "penalty q 3 if a",
                     "against b if open a", "redress q if b", "for c if a", "denies v b", "for b if open a", "seen c",
                     "unseen b", "against b if open a")
        self.assertEqual(going(text, 1), [3, 7, 11, 14])
        self.assertEqual(going(text, 2), [])

    def test_numbers_go_on_over_more(self):
        text = lines("for x if yes", "claim y")
        taken = ask(take(KNOWN), [1, len(text)] + list(text.encode()), rules(3), [1, 13] + list(b"for x if yes\n"),
                    rules(3))
        self.assertEqual(taken, [[0], [0], [1, 6], [0], [2, 6, 8]])


class WithoutTest(unittest.TestCase):
    # u is witness 0, v witness 1; u weighs 2.
    TEXT = lines("claim a", "weight u 2", "says u a", "denies v a", "claim b", "for b if a", "against b if not a",
                 "for b if open a", "against b if open a")

    def test_each_set(self):
        self.assertEqual(going(self.TEXT, 1, 0), [5])
        self.assertEqual(going(self.TEXT, 1, 1), [6])
        self.assertEqual(going(self.TEXT, 1, 2), [5])
        self.assertEqual(going(self.TEXT, 1, 3), [7, 8])

    def test_one_answer_does_not_change_the_next(self):
        answered = ask(take(self.TEXT), *[rules(1, without) for without in [0, 1, 0, 3, 2, 1, 0]])
        self.assertEqual(answered[1:], [[1, 5], [1, 6], [1, 5], [2, 7, 8], [1, 5], [1, 6], [1, 5]])

    def test_through_other_rules(self):
        text = self.TEXT + lines("claim c", "for c if b", "claim d", "against d if open b", "for d if c")
        self.assertEqual(going(text, 3, 0), [13])
        self.assertEqual(going(text, 3, 1), [])
        self.assertEqual(going(text, 3, 3), [12])

    def test_a_condition_on_what_is_seen_holds_without_all(self):
        text = lines("claim a", "seen a", "denies w a", "claim b", "for b if a")
        self.assertEqual(going(text, 1, 0), [4])
        self.assertEqual(going(text, 1, 1), [4])


class RefusalTest(unittest.TestCase):
    def test_a_bit_for_no_witness(self):
        for count in range(9):
            text = "claim a\n" + lines(*[f"says w{k} a" for k in range(count)])
            first = 2 ** count
            answered = ask(take(text), rules(0, first - 1), *[rules(0, bits) for bits in (first, first + 1, LAST)])
            self.assertEqual(answered[1:], [[0], [-8], [-8], [-8]])

    def test_a_high_bit_alone(self):
        for bit in range(2, 32):
            self.assertEqual(of_case(lines("claim a", "says v a", "weight w 2"), rules(0, 1 << bit)), [-8])

    def test_no_such_claim(self):
        for count in [0, 1, 2, 63, 64]:
            text = lines(*[f"claim c{k}" for k in range(count)])
            answered = ask(take(text), rules(count), rules(count + 1), rules(LAST))
            self.assertEqual(answered[1:], [[-4], [-4], [-4]])
            if count > 0:
                self.assertEqual(of_case(text, rules(count - 1)), [0])

    def test_the_bit_is_looked_at_first(self):
        text = lines("claim a", "says w a")
        self.assertEqual(ask(rules(0, 1), rules(0), rules(LAST, LAST)), [[-8], [-4], [-8]])
        answered = ask(take(text), rules(1, 2), rules(1, 1), rules(LAST, LAST), rules(LAST, 0), rules(0, 1))
        self.assertEqual(answered[1:], [[-8], [-4], [-8], [-4], [0]])

    def test_a_refusal_leaves_the_object(self):
        text = lines("claim a", "says w a", "claim b", "for b if a")
        answered = ask(take(text), rules(2), rules(0, 2), TEXT, SIZES, rules(1), claim(1))
        self.assertEqual(answered[3:], [told(text), [0, 2, 1, 4], [1, 3], [0, 1, 2]])


if __name__ == "__main__":
    unittest.main()
