"""turn: the first of the smallest sets of witnesses without whom a claim is settled otherwise."""

import unittest

from tests.asking import LAST, OPEN, PROVED, REFUTED, SIZES, TEXT, ask, claim, lines, more, of_case, settled, take, told
from tests.asking import turn


def weights(*amounts):
    """Weight lines for w0, w1 ..., who are so witnesses 0, 1 ..."""
    return lines(*[f"weight w{k} {amount}" for k, amount in enumerate(amounts)])


def speak(word, whos, name="a"):
    return lines(*[f"{word} w{k} {name}" for k in whos])


class NoSetTest(unittest.TestCase):
    def test_no_witnesses(self):
        for text in ["claim a\n", "claim a\nseen a\n", lines("claim b", "claim a", "for a if open b")]:
            self.assertEqual(of_case(text, turn(0)), [-3])

    def test_witnesses_who_do_not_speak(self):
        self.assertEqual(of_case("claim a\n" + weights(9, 9), turn(0)), [-3])

    def test_a_seen_claim(self):
        for word in ["seen", "unseen"]:
            text = lines("claim a", f"{word} a") + speak("says", range(8))
            self.assertEqual(of_case(text, turn(0)), [-3])
            text = lines("claim a") + speak("denies", range(8)) + lines(f"{word} a")
            self.assertEqual(of_case(text, turn(0)), [-3])

    def test_a_claim_that_follows_from_what_is_seen(self):
        text = lines("claim b", "seen b", "claim a", "for a if b", "says w a", "denies v a", "denies u b")
        self.assertEqual(of_case(text, turn(1)), [-3])

    def test_who_speaks_of_later_claims_alone(self):
        text = lines("claim a", "claim b", "says w b", "for b if a", "claim c", "denies v c")
        self.assertEqual(of_case(text, turn(0)), [-3])
        self.assertEqual(of_case(text, turn(1)), [1, 1])
        self.assertEqual(of_case(text, turn(2)), [1, 2])

    def test_who_speaks_of_another_claim_before(self):
        text = lines("claim a", "claim b", "says w a")
        self.assertEqual(of_case(text, turn(1)), [-3])

    def test_settled_by_another_but_alike(self):
        # With w the claim is proved by a rule, without by v.
        text = lines("claim a", "says w a", "claim b", "for b if a", "says v b")
        self.assertEqual([settled(text, 1), settled(text, 1, 1)], [(PROVED, 2), (PROVED, 3)])
        self.assertEqual(of_case(text, turn(1)), [2, 3])
        text = lines("claim a", "says w a", "claim b", "for b if a", "against b if a")
        self.assertEqual([settled(text, 1), settled(text, 1, 1)], [(OPEN, 2), (OPEN, 3)])
        self.assertEqual(of_case(text, turn(1)), [-3])


class OneTest(unittest.TestCase):
    def test_the_only_witness(self):
        self.assertEqual(of_case(lines("claim a", "says w a"), turn(0)), [1, 1])
        self.assertEqual(of_case(lines("claim a", "denies w a"), turn(0)), [1, 1])

    def test_each_of_eight(self):
        for k in range(8):
            self.assertEqual(of_case("claim a\n" + weights(*[3] * 8) + speak("says", [k]), turn(0)), [1, 1 << k])

    def test_the_first_of_several(self):
        self.assertEqual(of_case("claim a\n" + weights(2, 2, 2) + speak("denies", [1]) + speak("says", [2]), turn(0)),
                         [1, 2])
        self.assertEqual(of_case("claim a\n" + weights(2, 2, 2) + speak("denies", [2]) + speak("says", [1]), turn(0)),
                         [1, 2])
        self.assertEqual(of_case("claim a\n" + weights(2, 2, 2) + speak("denies", [0]) + speak("says", [2]), turn(0)),
                         [1, 1])

    def test_from_open(self):
        # Open by a tie: each who speaks turns it.
        text = "claim a\n" + weights(1, 2, 3) + speak("says", [0, 1]) + speak("denies", [2])
        self.assertEqual(settled(text)[0], OPEN)
        self.assertEqual(of_case(text, turn(0)), [1, 1])

    def test_to_open(self):
        text = "claim a\n" + weights(1, 2, 3) + speak("says", [0, 2]) + speak("denies", [1])
        self.assertEqual([settled(text)[0], settled(text, 0, 1)[0]], [PROVED, PROVED])
        self.assertEqual(of_case(text, turn(0)), [1, 4])

    def test_weights_tell_who(self):
        for heavy in range(8):
            amounts = [9 if k == heavy else 1 for k in range(8)]
            text = "claim a\n" + weights(*amounts) + speak("says", range(8))
            self.assertEqual(of_case(text, turn(0))[0], 8)
            others = [k for k in range(8) if k != heavy]
            text = "claim a\n" + weights(*amounts) + speak("says", [heavy]) + speak("denies", others)
            self.assertEqual(of_case(text, turn(0)), [1, 1 << heavy])


class SeveralTest(unittest.TestCase):
    def test_all_who_speak(self):
        for count in range(1, 9):
            text = "claim a\n" + weights(*[1] * 8) + speak("says", range(count))
            self.assertEqual(of_case(text, turn(0)), [count, 2 ** count - 1])
            text = "claim a\n" + weights(*range(1, 9)) + speak("denies", range(8 - count, 8))
            self.assertEqual(of_case(text, turn(0)), [count, 255 - (2 ** (8 - count) - 1)])

    def test_half_of_them(self):
        # Four of the five who say it make a tie with the one who denies it.
        text = "claim a\n" + weights(*[1] * 6) + speak("denies", [0]) + speak("says", [1, 2, 3, 4, 5])
        self.assertEqual(of_case(text, turn(0)), [4, 0b011110])

    def test_the_fewest_and_not_the_first(self):
        # w0 and w1 together turn it, but w2 does so alone.
        text = "claim a\n" + weights(1, 1, 2, 2) + speak("says", [0, 1, 2]) + speak("denies", [3])
        self.assertEqual([settled(text, 0, 3)[0], settled(text, 0, 4)[0]], [OPEN, OPEN])
        self.assertEqual(of_case(text, turn(0)), [1, 4])

    def test_rising_rows_are_compared_not_bits(self):
        # 0 3 (bits 9) comes ahead of 1 2 (bits 6).
        text = lines("claim x", "claim y", "claim a", "for a if x y") + weights(1, 1, 1, 1)
        text += speak("says", [0, 3], "x") + speak("says", [1, 2], "y")
        self.assertEqual([settled(text, 2, bits)[0] for bits in (0, 9, 6, 1, 8, 2, 4)],
                         [PROVED, OPEN, OPEN, PROVED, PROVED, PROVED, PROVED])
        self.assertEqual(of_case(text, turn(2)), [2, 9])

    def test_rows_that_differ_behind_their_first(self):
        # 0 1 5 (bits 35) comes ahead of 0 2 3 (bits 13).
        text = lines("claim x", "claim y", "claim a", "for a if x y") + weights(*[1] * 6)
        text += speak("says", [0, 1, 5], "x") + speak("says", [0, 2, 3], "y")
        self.assertEqual(of_case(text, turn(2)), [3, 35])
        # And 0 2 7 (bits 133) ahead of 1 2 3 (bits 14).
        text = lines("claim x", "claim y", "claim a", "for a if x y") + weights(*[1] * 8)
        text += speak("says", [0, 2, 7], "x") + speak("says", [1, 2, 3], "y")
        self.assertEqual(of_case(text, turn(2)), [3, 133])

    def test_several_of_as_few(self):
        text = "claim a\n" + weights(1, 1, 1, 1) + speak("denies", [1]) + speak("says", [0, 2, 3])
        self.assertEqual(of_case(text, turn(0)), [2, 5])
        text = "claim a\n" + weights(1, 1, 1, 1) + speak("denies", [0]) + speak("says", [1, 2, 3])
        self.assertEqual(of_case(text, turn(0)), [2, 6])

    def test_one_more_may_turn_it_back(self):
        # Without w0 it is refuted, without both it is open, with both it is open too.
        text = "claim a\n" + weights(1, 1) + speak("says", [0]) + speak("denies", [1])
        self.assertEqual([settled(text, 0, bits)[0] for bits in range(4)], [OPEN, REFUTED, PROVED, OPEN])
        self.assertEqual(of_case(text, turn(0)), [1, 1])


class RulesTest(unittest.TestCase):
    def test_plain(self):
        text = lines("claim a", "claim b", "for b if a") + weights(1, 1, 1) + speak("says", [1])
        self.assertEqual(of_case(text, turn(1)), [1, 2])
        text = lines("claim a", "claim b", "against b if a") + weights(1, 1, 1) + speak("says", [1, 2])
        self.assertEqual(of_case(text, turn(1)), [2, 6])

    def test_not(self):
        text = lines("claim a", "claim b", "for b if not a") + weights(1, 1, 1) + speak("denies", [2])
        self.assertEqual(of_case(text, turn(1)), [1, 4])
        # To be turned, a must be refuted: w0 has to go, and more than who says it is left.
        text = lines("claim a", "claim b", "for b if not a") + weights(3, 1, 1) + speak("says", [0])
        text += speak("denies", [1, 2])
        self.assertEqual(of_case(text, turn(1)), [1, 1])

    def test_open(self):
        text = lines("claim a", "claim b", "for b if open a") + weights(1, 2) + speak("says", [0]) + speak("denies", [1])
        self.assertEqual([settled(text, 1, bits)[0] for bits in range(4)], [OPEN, OPEN, OPEN, PROVED])
        self.assertEqual(of_case(text, turn(1)), [2, 3])
        text = lines("claim a", "claim b", "for b if open a") + weights(1, 1) + speak("says", [0]) + speak("denies", [1])
        self.assertEqual(of_case(text, turn(1)), [1, 1])

    def test_a_chain(self):
        text = lines(*[f"claim c{k}" for k in range(64)], *[f"for c{k} if c{k - 1}" for k in range(1, 64)])
        text += weights(*[1] * 8) + speak("says", [3, 6], "c0")
        for number in [0, 1, 62, 63]:
            self.assertEqual(of_case(text, turn(number)), [2, 72])
        self.assertEqual(of_case(text + "seen c40\n", turn(39)), [2, 72])
        self.assertEqual(of_case(text + "seen c40\n", turn(40)), [-3])
        self.assertEqual(of_case(text + "seen c40\n", turn(63)), [-3])

    def test_own_words_beneath_a_rule(self):
        # The rule outweighs w1 and w2, who deny it; without w0 they are heard.
        text = lines("claim a", "claim b", "for b if a") + weights(1, 1, 1) + speak("says", [0])
        text += speak("denies", [1, 2], "b")
        self.assertEqual(settled(text, 1, 1), (REFUTED, 3))
        self.assertEqual(of_case(text, turn(1)), [1, 1])
        # Where they say it, all three must go.
        text = lines("claim a", "claim b", "for b if a") + weights(1, 1, 1) + speak("says", [0])
        text += speak("says", [1, 2], "b")
        self.assertEqual(of_case(text, turn(1)), [3, 7])

    def test_rules_for_and_against(self):
        text = lines("claim x", "claim y", "claim a", "for a if x", "against a if y") + weights(1, 1)
        text += speak("says", [1], "x") + speak("says", [0], "y")
        self.assertEqual([settled(text, 2, bits)[0] for bits in range(4)], [OPEN, PROVED, REFUTED, OPEN])
        self.assertEqual(of_case(text, turn(2)), [1, 1])


class SilentTest(unittest.TestCase):
    def test_they_are_in_no_set(self):
        # w0 and w2 speak of what comes behind alone, w4 not at all.
        text = lines("claim a", "claim b", "claim c", "for b if a", "for c if b") + weights(1, 1, 1, 1, 1)
        text += speak("says", [1, 3], "a") + speak("denies", [0, 2], "c")
        self.assertEqual(of_case(text, turn(0)), [2, 10])
        self.assertEqual(of_case(text, turn(1)), [2, 10])
        self.assertEqual(of_case(text, turn(2)), [2, 10])

    def test_words_on_claims_before_that_nothing_hangs_on(self):
        text = lines("claim a", "claim b") + weights(9, 1) + speak("says", [0], "a") + speak("says", [1], "b")
        self.assertEqual(of_case(text, turn(1)), [1, 2])


class RefusalTest(unittest.TestCase):
    def test_no_such_claim(self):
        for count in [0, 1, 2, 63, 64]:
            text = lines(*[f"claim c{k}" for k in range(count)], "weight w 2")
            answered = ask(take(text), turn(count), turn(count + 1), turn(LAST))
            self.assertEqual(answered[1:], [[-4], [-4], [-4]])
            if count > 0:
                self.assertEqual(of_case(text, turn(count - 1)), [-3])
                self.assertEqual(of_case(text + f"says w c{count - 1}\n", turn(count - 1)), [1, 1])

    def test_on_a_new_object(self):
        self.assertEqual(ask(turn(0), turn(LAST)), [[-4], [-4]])

    def test_a_refusal_leaves_the_object(self):
        text = lines("claim a", "says w a", "claim b")
        answered = ask(take(text), turn(2), turn(1), TEXT, SIZES, turn(0), claim(0))
        self.assertEqual(answered[1:], [[-4], [-3], told(text), [0, 2, 1, 3], [1, 1], [0, 1, 3]])

    def test_behind_more(self):
        answered = ask(take(lines("claim a", "says w a")), turn(0), more("says v a\n"), turn(0), more("says v a\n"),
                       turn(0), more("weight u 2\ndenies u a\n"), turn(0), more("seen a\n"), turn(0))
        self.assertEqual(answered[1:], [[1, 1], [0], [2, 3], [-6, 3, 4], [2, 3], [0], [1, 1], [0], [-3]])


if __name__ == "__main__":
    unittest.main()
