"""boat: a boat's penalty and redress."""

import unittest

from tests.asking import LAST, SIZES, TEXT, ask, boat, lines, more, of_case, take, told

KNOWN = lines("claim yes", "claim no", "claim maybe", "seen yes", "unseen no")
HOLDING = ["yes", "not no", "open maybe", "yes not no open maybe"]
NOT_HOLDING = ["no", "maybe", "not yes", "not maybe", "open yes", "open no", "yes no", "not no open yes",
               "yes not yes", "open maybe maybe"]


def outcome(*rows, name="q", without=0):
    """(penalty, redress) of a boat in the case of these rows behind the known claims."""
    answer = of_case(KNOWN + lines(*rows), boat(name, without))
    if len(answer) != 3 or answer[0] != 0:
        raise AssertionError(f"boat answered {answer}")
    return (answer[1], answer[2])


class PenaltyTest(unittest.TestCase):
    def test_no_line(self):
        self.assertEqual(outcome(), (0, 0))
        self.assertEqual(outcome("penalty r 5 if yes"), (0, 0))

    def test_one_line(self):
        for points in [1, 2, 9, 10, 42, 98, 99]:
            self.assertEqual(outcome(f"penalty q {points} if yes"), (points, 0))
            self.assertEqual(outcome(f"penalty q {points} if no"), (0, 0))

    def test_conditions(self):
        for condition in HOLDING:
            self.assertEqual(outcome(f"penalty q 7 if {condition}"), (7, 0), condition)
        for condition in NOT_HOLDING:
            self.assertEqual(outcome(f"penalty q 7 if {condition}"), (0, 0), condition)

    def test_the_most_points(self):
        rows = ["penalty q 9 if yes", "penalty q 10 if yes", "penalty q 2 if yes"]
        self.assertEqual(outcome(*rows), (10, 0))
        self.assertEqual(outcome(*reversed(rows)), (10, 0))
        self.assertEqual(outcome("penalty q 3 if yes", "penalty q 3 if yes"), (3, 0))

    def test_the_most_of_those_that_hold(self):
        self.assertEqual(outcome("penalty q 50 if no", "penalty q 5 if yes", "penalty q 99 if maybe"), (5, 0))
        self.assertEqual(outcome("penalty q 5 if yes", "penalty q 50 if not no", "penalty q 60 if open no"), (50, 0))
        self.assertEqual(outcome("penalty q 5 if no", "penalty q 50 if maybe"), (0, 0))

    def test_of_other_boats(self):
        rows = ["penalty q 5 if yes", "penalty r 50 if yes", "penalty qq 7 if yes", "penalty q1 8 if yes"]
        for name, points in [("q", 5), ("r", 50), ("qq", 7), ("q1", 8), ("s", 0)]:
            self.assertEqual(outcome(*rows, name=name), (points, 0), name)

    def test_a_condition_on_the_last_claim(self):
        claims = [f"claim c{k}" for k in range(61)]
        self.assertEqual(outcome(*claims, "seen c60", "penalty q 4 if c60"), (4, 0))
        self.assertEqual(outcome(*claims, "unseen c60", "redress q if not c60"), (0, 1))

    def test_what_is_told_behind_the_line_counts(self):
        self.assertEqual(outcome("penalty q 4 if maybe", "seen maybe"), (4, 0))
        self.assertEqual(outcome("redress q if not maybe", "denies w maybe"), (0, 1))

    def test_a_condition_on_what_follows_by_rules(self):
        rows = ["claim x", "for x if yes", "penalty q 4 if x", "redress q if open x"]
        self.assertEqual(outcome(*rows), (4, 0))
        self.assertEqual(outcome(*rows, "against x if yes"), (0, 1))


class RedressTest(unittest.TestCase):
    def test_conditions(self):
        for condition in HOLDING:
            self.assertEqual(outcome(f"redress q if {condition}"), (0, 1), condition)
        for condition in NOT_HOLDING:
            self.assertEqual(outcome(f"redress q if {condition}"), (0, 0), condition)

    def test_several_lines(self):
        self.assertEqual(outcome("redress q if no", "redress q if yes", "redress q if maybe"), (0, 1))
        self.assertEqual(outcome("redress q if no", "redress q if maybe"), (0, 0))
        self.assertEqual(outcome("redress q if yes", "redress q if yes"), (0, 1))

    def test_not_with_a_penalty(self):
        self.assertEqual(outcome("redress q if yes", "penalty q 1 if yes"), (1, 0))
        self.assertEqual(outcome("penalty q 99 if yes", "redress q if yes"), (99, 0))
        self.assertEqual(outcome("penalty q 9 if no", "redress q if yes", "penalty q 2 if open maybe"), (2, 0))

    def test_with_a_penalty_line_that_does_not_hold(self):
        self.assertEqual(outcome("redress q if yes", "penalty q 1 if no"), (0, 1))
        self.assertEqual(outcome("penalty q 1 if no", "redress q if no"), (0, 0))

    def test_of_other_boats(self):
        rows = ["redress q if yes", "penalty r 5 if yes", "redress r if yes", "redress s if no"]
        for name, expected in [("q", (0, 1)), ("r", (5, 0)), ("s", (0, 0)), ("t", (0, 0))]:
            self.assertEqual(outcome(*rows, name=name), expected, name)


class NameTest(unittest.TestCase):
    def test_named_like_a_claim_or_a_witness(self):
        rows = ["weight w 3", "says v maybe", "penalty yes 5 if yes", "redress maybe if yes", "penalty w 6 if yes",
                "redress v if yes", "penalty not 7 if yes", "redress open if yes", "penalty if 8 if yes",
                "penalty penalty 9 if yes", "redress redress if yes", "penalty 5 11 if yes"]
        for name, expected in [
            ("yes", (5, 0)), ("no", (0, 0)), ("maybe", (0, 1)), ("w", (6, 0)), ("v", (0, 1)), ("not", (7, 0)),
            ("open", (0, 1)), ("if", (8, 0)), ("penalty", (9, 0)), ("redress", (0, 1)), ("5", (11, 0)),
        ]:
            self.assertEqual(outcome(*rows, name=name), expected, name)

    def test_not_open_and_if_where_no_line_names_them(self):
        for name in ["not", "open", "if"]:
            self.assertEqual(outcome(name=name), (0, 0))

    def test_a_boat_is_no_witness(self):
        answered = ask(take(KNOWN + "penalty q 5 if yes\n"), SIZES, boat("q", 1))
        self.assertEqual(answered[1:], [[0, 3, 0, 6], [-8]])

    def test_names_of_every_length(self):
        for length in range(1, 13):
            name = "abcdefghij89"[:length]
            self.assertEqual(outcome(f"penalty {name} 5 if yes", name=name), (5, 0))
            self.assertEqual(outcome(f"redress {name} if yes", name=name), (0, 1))
            self.assertEqual(outcome(f"penalty {name} 5 if yes", name="z" * length), (0, 0))
        for length in [0, 13, 14, 24, 1000]:
            self.assertEqual(of_case(KNOWN, boat("a" * length)), [-8], length)

    def test_each_byte(self):
        for byte in range(256):
            is_in_names = chr(byte) in "abcdefghijklmnopqrstuvwxyz0123456789"
            expected = [0, 0, 0] if is_in_names else [-8]
            self.assertEqual(of_case(KNOWN, boat([byte])), expected, byte)
            self.assertEqual(of_case(KNOWN, boat([97, byte])), expected, byte)
            self.assertEqual(of_case(KNOWN, boat([byte] + [48] * 11)), expected, byte)

    def test_names_with_what_is_in_no_name(self):
        for name in ["q ", " q", "q\n", "\n", " ", "Q", "q r", "q-r", "?", "q?", "\0", "q\0", "\xff", "q\r"]:
            self.assertEqual(of_case(KNOWN + "penalty q 5 if yes\n", boat(name)), [-8], name)


class WithoutTest(unittest.TestCase):
    # w is witness 0 and weighs 2, v witness 1.
    ROWS = ["weight w 2", "says w maybe", "denies v maybe", "penalty q 20 if maybe", "penalty q 3 if not maybe",
            "redress q if open maybe", "redress r if not maybe"]

    def test_each_set(self):
        for without, expected in enumerate([(20, 0), (3, 0), (20, 0), (0, 1)]):
            self.assertEqual(outcome(*self.ROWS, without=without), expected)
        for without, expected in enumerate([(0, 0), (0, 1), (0, 0), (0, 0)]):
            self.assertEqual(outcome(*self.ROWS, name="r", without=without), expected)

    def test_through_rules(self):
        rows = [*self.ROWS, "claim x", "for x if maybe", "redress s if x", "penalty s 5 if open x"]
        for without, expected in enumerate([(0, 1), (5, 0), (0, 1), (5, 0)]):
            self.assertEqual(outcome(*rows, name="s", without=without), expected)

    def test_one_answer_does_not_change_the_next(self):
        calls = [boat("q", without) for without in [0, 3, 1, 0, 2, 3]]
        answered = ask(take(KNOWN + lines(*self.ROWS)), *calls)
        self.assertEqual(answered[1:], [[0, 20, 0], [0, 0, 1], [0, 3, 0], [0, 20, 0], [0, 20, 0], [0, 0, 1]])

    def test_a_boat_named_like_a_witness_keeps_her_penalty_without_them(self):
        self.assertEqual(outcome("says w yes", "penalty w 5 if yes", name="w", without=1), (5, 0))


class RefusalTest(unittest.TestCase):
    def test_a_bit_for_no_witness(self):
        for count in range(9):
            text = "claim a\n" + lines(*[f"weight w{k} 3" for k in range(count)])
            first = 2 ** count
            answered = ask(take(text), boat("q", first - 1), *[boat("q", bits) for bits in (first, first + 1, LAST)])
            self.assertEqual(answered[1:], [[0, 0, 0], [-8], [-8], [-8]])

    def test_a_high_bit_alone(self):
        for bit in range(2, 32):
            self.assertEqual(of_case(lines("claim a", "says v a", "weight w 2"), boat("q", 1 << bit)), [-8])

    def test_a_bit_and_no_name(self):
        self.assertEqual(ask(boat("", 1), boat("Q", LAST), boat("", 0), boat("q", 1)), [[-8]] * 4)

    def test_a_refusal_leaves_the_object(self):
        text = KNOWN + "penalty q 5 if yes\n"
        answered = ask(take(text), boat(""), boat("q", 1), boat("q" * 13), TEXT, SIZES, boat("q"))
        self.assertEqual(answered[4:], [told(text), [0, 3, 0, 6], [0, 5, 0]])

    def test_a_boat_behind_a_refused_more(self):
        answered = ask(take(KNOWN), more("penalty q 5 if yes\npenalty q 0 if yes\n"), boat("q"),
                       more("penalty q 5 if yes\n"), boat("q"))
        self.assertEqual(answered, [[0], [-6, 6, 1], [0, 0, 0], [0], [0, 5, 0]])


if __name__ == "__main__":
    unittest.main()
