"""claim: what is proved, refuted or open, by what, and without whom."""

import unittest

from tests.asking import BY_RULES, BY_SIGHT, BY_WITNESSES, LAST, OPEN, PROVED, REFUTED, ask, claim, lines, settled, take

KNOWN = lines("claim yes", "claim no", "claim maybe", "seen yes", "unseen no", "claim x")


class SightTest(unittest.TestCase):
    def test_seen_and_unseen(self):
        self.assertEqual(settled("claim a\nseen a\n"), (PROVED, BY_SIGHT))
        self.assertEqual(settled("claim a\nunseen a\n"), (REFUTED, BY_SIGHT))

    def test_seen_outweighs_rules_and_witnesses(self):
        against = lines("weight w 9", "denies w x", "denies v x", "against x if yes")
        self.assertEqual(settled(KNOWN + against + "seen x\n", 3), (PROVED, BY_SIGHT))
        self.assertEqual(settled(KNOWN + "seen x\n" + against, 3), (PROVED, BY_SIGHT))
        speaking_for = lines("weight w 9", "says w x", "says v x", "for x if yes")
        self.assertEqual(settled(KNOWN + speaking_for + "unseen x\n", 3), (REFUTED, BY_SIGHT))
        self.assertEqual(settled(KNOWN + "unseen x\n" + speaking_for, 3), (REFUTED, BY_SIGHT))
        both = lines("for x if yes", "against x if yes")
        self.assertEqual(settled(KNOWN + both + "seen x\n", 3), (PROVED, BY_SIGHT))


class RulesTest(unittest.TestCase):
    def test_for_and_against(self):
        self.assertEqual(settled(KNOWN + "for x if yes\n", 3), (PROVED, BY_RULES))
        self.assertEqual(settled(KNOWN + "against x if yes\n", 3), (REFUTED, BY_RULES))
        self.assertEqual(settled(KNOWN + lines("for x if yes", "against x if yes"), 3), (OPEN, BY_RULES))
        self.assertEqual(settled(KNOWN + lines("against x if yes", "for x if yes"), 3), (OPEN, BY_RULES))

    def test_how_many_go_is_not_weighed(self):
        self.assertEqual(settled(KNOWN + lines(*["for x if yes"] * 3, "against x if yes"), 3), (OPEN, BY_RULES))
        self.assertEqual(settled(KNOWN + lines(*["against x if yes"] * 3), 3), (REFUTED, BY_RULES))

    def test_rules_outweigh_witnesses(self):
        deny = lines("weight w 9", "denies w x")
        self.assertEqual(settled(KNOWN + deny + "for x if yes\n", 3), (PROVED, BY_RULES))
        self.assertEqual(settled(KNOWN + deny + lines("for x if yes", "against x if yes"), 3), (OPEN, BY_RULES))
        say = lines("weight w 9", "says w x")
        self.assertEqual(settled(KNOWN + say + "against x if yes\n", 3), (REFUTED, BY_RULES))

    def test_a_rule_that_does_not_go(self):
        for kind in ["for", "against"]:
            self.assertEqual(settled(KNOWN + f"{kind} x if no\n", 3), (OPEN, BY_WITNESSES))
            self.assertEqual(settled(KNOWN + f"{kind} x if no\nsays w x\n", 3), (PROVED, BY_WITNESSES))
            self.assertEqual(settled(KNOWN + f"{kind} x if no\ndenies w x\n", 3), (REFUTED, BY_WITNESSES))
        self.assertEqual(settled(KNOWN + lines("for x if yes", "against x if no"), 3), (PROVED, BY_RULES))
        self.assertEqual(settled(KNOWN + lines("for x if no", "against x if yes"), 3), (REFUTED, BY_RULES))

    def test_conditions(self):
        holding = {"yes", "not no", "open maybe"}
        for condition in ["yes", "no", "maybe", "not yes", "not no", "not maybe", "open yes", "open no", "open maybe"]:
            goes = condition in holding
            expected = (PROVED, BY_RULES) if goes else (OPEN, BY_WITNESSES)
            self.assertEqual(settled(KNOWN + f"for x if {condition}\n", 3), expected, condition)
            expected = (REFUTED, BY_RULES) if goes else (OPEN, BY_WITNESSES)
            self.assertEqual(settled(KNOWN + f"against x if {condition}\n", 3), expected, condition)

    def test_all_conditions_must_hold(self):
        self.assertEqual(settled(KNOWN + "for x if yes not no open maybe\n", 3), (PROVED, BY_RULES))
        for wrong in range(8):
            conditions = ["yes"] * 8
            self.assertEqual(settled(KNOWN + f"for x if {' '.join(conditions)}\n", 3), (PROVED, BY_RULES))
            conditions[wrong] = "not yes"
            self.assertEqual(settled(KNOWN + f"for x if {' '.join(conditions)}\n", 3), (OPEN, BY_WITNESSES))
        self.assertEqual(settled(KNOWN + "for x if yes open yes\n", 3), (OPEN, BY_WITNESSES))

    def test_a_chain(self):
        text = lines(*[f"claim c{k}" for k in range(64)], "says w c0", *[f"for c{k} if c{k - 1}" for k in range(1, 64)])
        self.assertEqual(settled(text, 63), (PROVED, BY_RULES))
        self.assertEqual(settled(text, 63, 1), (OPEN, BY_WITNESSES))
        turning = lines(*[f"claim c{k}" for k in range(64)], "seen c0",
                        *[f"against c{k} if c{k - 1}" for k in range(1, 64)],
                        *[f"for c{k} if not c{k - 1}" for k in range(1, 64)])
        self.assertEqual(settled(turning, 62), (PROVED, BY_RULES))
        self.assertEqual(settled(turning, 63), (REFUTED, BY_RULES))

    def test_a_condition_on_a_claim_that_is_open_by_rules(self):
        text = KNOWN + lines("for x if yes", "against x if yes", "claim y", "for y if open x")
        self.assertEqual(settled(text, 4), (PROVED, BY_RULES))


class WitnessesTest(unittest.TestCase):
    def test_none_speaks(self):
        self.assertEqual(settled("claim a\n"), (OPEN, BY_WITNESSES))
        self.assertEqual(settled("claim a\nweight w 9\n"), (OPEN, BY_WITNESSES))

    def test_one_speaks(self):
        self.assertEqual(settled("claim a\nsays w a\n"), (PROVED, BY_WITNESSES))
        self.assertEqual(settled("claim a\ndenies w a\n"), (REFUTED, BY_WITNESSES))

    def test_where_no_weight_is_told_it_is_1(self):
        self.assertEqual(settled("claim a\nsays v a\ndenies w a\n"), (OPEN, BY_WITNESSES))
        self.assertEqual(settled("claim a\nweight w 1\nsays v a\ndenies w a\n"), (OPEN, BY_WITNESSES))
        self.assertEqual(settled("claim a\nweight w 2\nsays v a\ndenies w a\n"), (REFUTED, BY_WITNESSES))
        self.assertEqual(settled("claim a\nweight v 2\nsays v a\ndenies w a\n"), (PROVED, BY_WITNESSES))

    def test_every_two_weights(self):
        for first in range(1, 10):
            for second in range(1, 10):
                text = lines("claim a", f"weight v {first}", f"weight w {second}", "says v a", "denies w a")
                verdict = PROVED if first > second else REFUTED if first < second else OPEN
                self.assertEqual(settled(text), (verdict, BY_WITNESSES))

    def test_weights_together(self):
        text = lines("claim a", "weight u 4", "weight v 3", "weight w 2", "denies u a", "says v a")
        self.assertEqual(settled(text), (REFUTED, BY_WITNESSES))
        self.assertEqual(settled(text + "says w a\n"), (PROVED, BY_WITNESSES))
        self.assertEqual(settled(text + "says x a\n"), (OPEN, BY_WITNESSES))
        self.assertEqual(settled(text + "says w a\ndenies x a\n"), (OPEN, BY_WITNESSES))

    def test_words_on_other_claims_count_for_nothing(self):
        text = lines("claim a", "claim b", "says v a", "denies w b", "denies x b")
        self.assertEqual(settled(text, 0), (PROVED, BY_WITNESSES))
        self.assertEqual(settled(text, 1), (REFUTED, BY_WITNESSES))


class WithoutTest(unittest.TestCase):
    TEXT = lines("claim a", "weight u 2", "says v a", "denies u a", "says w a", "claim b", "for b if a", "claim c",
                 "against c if not a", "says v c")

    def test_each_set(self):
        # u is witness 0 and weighs 2, v and w are witnesses 1 and 2.
        verdicts = [OPEN, PROVED, REFUTED, PROVED, REFUTED, PROVED, REFUTED, OPEN]
        for without, verdict in enumerate(verdicts):
            self.assertEqual(settled(self.TEXT, 0, without), (verdict, BY_WITNESSES), without)

    def test_what_follows(self):
        for without in range(8):
            a = settled(self.TEXT, 0, without)[0]
            b = (PROVED, BY_RULES) if a == PROVED else (OPEN, BY_WITNESSES)
            self.assertEqual(settled(self.TEXT, 1, without), b, without)
            said = (OPEN, BY_WITNESSES) if without & 2 else (PROVED, BY_WITNESSES)
            self.assertEqual(settled(self.TEXT, 2, without), (REFUTED, BY_RULES) if a == REFUTED else said, without)

    def test_seen_stays_seen(self):
        for without in range(8):
            self.assertEqual(settled(self.TEXT + "seen a\n", 0, without), (PROVED, BY_SIGHT))
            self.assertEqual(settled(self.TEXT + "seen a\n", 1, without), (PROVED, BY_RULES))

    def test_witnesses_are_numbered_by_where_they_are_first_named(self):
        text = lines("claim a", "claim b", "denies z a", "weight y 1", "says x b", "says y a", "denies z b")
        self.assertEqual(settled(text, 0), (OPEN, BY_WITNESSES))
        self.assertEqual(settled(text, 0, 1), (PROVED, BY_WITNESSES))
        self.assertEqual(settled(text, 0, 2), (REFUTED, BY_WITNESSES))
        self.assertEqual(settled(text, 0, 4), (OPEN, BY_WITNESSES))
        self.assertEqual(settled(text, 1, 4), (REFUTED, BY_WITNESSES))

    def test_eight_witnesses(self):
        text = "claim a\n" + lines(*[f"says w{k} a" for k in range(8)])
        self.assertEqual(settled(text, 0, 127), (PROVED, BY_WITNESSES))
        self.assertEqual(settled(text, 0, 254), (PROVED, BY_WITNESSES))
        self.assertEqual(settled(text, 0, 255), (OPEN, BY_WITNESSES))

    def test_one_answer_does_not_change_the_next(self):
        answered = ask(take(self.TEXT), claim(0), claim(0, 1), claim(0, 7), claim(0, 2), claim(0))
        self.assertEqual([answer[1] for answer in answered[1:]], [OPEN, PROVED, OPEN, REFUTED, OPEN])


class RefusalTest(unittest.TestCase):
    def test_no_such_witness(self):
        for count in range(9):
            text = "claim a\n" + lines(*[f"says w{k} a" for k in range(count)])
            first = 2 ** count
            answered = ask(take(text), claim(0, first - 1), claim(0, first), claim(0, first + 1), claim(0, LAST))
            self.assertEqual(answered[1][0], 0)
            self.assertEqual(answered[2:], [[-8], [-8], [-8]])

    def test_a_high_bit_alone(self):
        for bit in range(2, 32):
            text = lines("claim a", "says v a", "weight w 2")
            self.assertEqual(ask(take(text), claim(0, 1 << bit)), [[0], [-8]])

    def test_no_such_claim(self):
        for count in [0, 1, 2, 63, 64]:
            text = lines(*[f"claim c{k}" for k in range(count)])
            answered = ask(take(text), claim(count), claim(count + 1), claim(LAST))
            self.assertEqual(answered[1:], [[-4], [-4], [-4]])
            if count > 0:
                self.assertEqual(ask(take(text), claim(count - 1))[1], [0, OPEN, BY_WITNESSES])

    def test_witness_ahead_of_claim(self):
        text = lines("claim a", "says w a")
        answered = ask(claim(0, 1), claim(LAST, LAST), take(text), claim(1, 2), claim(1, 1), claim(LAST, LAST))
        self.assertEqual(answered, [[-8], [-8], [0], [-8], [-4], [-8]])

    def test_a_refusal_leaves_the_object(self):
        text = lines("claim a", "says w a")
        answered = ask(take(text), claim(1), claim(0, 2), [2], [3], claim(0))
        self.assertEqual(answered[3:], [[len(text)] + list(text.encode()), [0, 1, 1, 2], [0, PROVED, BY_WITNESSES]])


if __name__ == "__main__":
    unittest.main()
