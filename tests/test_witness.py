"""witness: how witnesses are numbered, and their names."""

import unittest

from tests.asking import LAST, SIZES, TEXT, ask, lines, more, numbers, take, told, witness


def names(text, most=9):
    """The names that witness answers, from 0 on up to the first refusal."""
    answered = ask(take(text), *[witness(k) for k in range(most)])
    if answered[0] != [0]:
        raise AssertionError(f"take answered {answered[0]}")
    found = []
    for answer in answered[1:]:
        if answer == [-4]:
            break
        if answer[0] != len(answer) - 1:
            raise AssertionError(f"witness answered {answer}")
        found.append(bytes(answer[1:]).decode())
    return found


class NumbersTest(unittest.TestCase):
    def test_one(self):
        for row in ["weight ann 3", "says ann a", "denies ann a"]:
            self.assertEqual(names(lines("claim a", row)), ["ann"])

    def test_by_where_they_are_first_named(self):
        rows = ["weight z 3", "says y a", "denies x a", "says z a", "denies y b", "weight w 9", "denies v b", "says x b"]
        self.assertEqual(names(lines("claim a", "claim b", *rows)), ["z", "y", "x", "w", "v"])

    def test_each_order_of_the_three_kinds(self):
        text = {"w": "weight w 2", "s": "says s a", "d": "denies d a"}
        for order in ["wsd", "wds", "swd", "sdw", "dws", "dsw"]:
            self.assertEqual(names(lines("claim a", *[text[sign] for sign in order])), list(order))

    def test_a_weight_counts_where_it_stands_not_where_they_speak(self):
        self.assertEqual(names(lines("claim a", "weight v 2", "says w a", "says v a")), ["v", "w"])
        self.assertEqual(names(lines("claim a", "says w a", "weight v 2", "says v a")), ["w", "v"])

    def test_boats_and_claims_are_no_witnesses(self):
        text = lines("claim a", "penalty q 3 if a", "redress r if a", "says w a", "seen a")
        self.assertEqual(names(text), ["w"])

    def test_named_like_claims_boats_and_words(self):
        rows = ["says a a", "weight q 2", "penalty q 3 if a", "says not a", "denies open a", "weight if 3", "says 7 a"]
        self.assertEqual(names(lines("claim a", *rows)), ["a", "q", "not", "open", "if", "7"])

    def test_eight(self):
        eight = [f"w{9 - k}" for k in range(8)]
        self.assertEqual(names("claim a\n" + lines(*[f"says {who} a" for who in eight])), eight)

    def test_the_number_is_the_bit(self):
        text = lines("claim a", "says z a", "denies y a", "weight x 5", "denies x a")
        answered = ask(take(text), [4, 0, 0], [4, 0, 4], [4, 0, 6], [4, 0, 5], witness(0), witness(1), witness(2))
        self.assertEqual([answer[1] for answer in answered[1:5]], [2, 3, 1, 2])
        self.assertEqual(answered[5:], [[1, 122], [1, 121], [1, 120]])


class NamesTest(unittest.TestCase):
    def test_names_of_every_length(self):
        for length in range(1, 13):
            name = "zyx9w0vutsrq"[:length]
            self.assertEqual(ask(take(f"weight {name} 2\n"), witness(0))[1], [length] + numbers(name))

    def test_each_sign(self):
        for sign in "abcdefghijklmnopqrstuvwxyz0123456789":
            self.assertEqual(ask(take(f"weight {sign} 2\n"), witness(0))[1], [1, ord(sign)])

    def test_a_name_with_0_first(self):
        self.assertEqual(names("weight 007 2\n"), ["007"])


class RefusalTest(unittest.TestCase):
    def test_no_such_witness(self):
        for count in range(9):
            text = lines(*[f"weight w{k} 2" for k in range(count)])
            answered = ask(take(text), witness(count), witness(count + 1), witness(LAST))
            self.assertEqual(answered[1:], [[-4], [-4], [-4]])
            if count > 0:
                self.assertEqual(ask(take(text), witness(count - 1))[1], told(f"w{count - 1}"))

    def test_a_case_of_no_witnesses(self):
        self.assertEqual(ask(witness(0), witness(LAST)), [[-4], [-4]])
        self.assertEqual(ask(take(lines("claim a", "seen a", "redress q if a")), witness(0))[1], [-4])

    def test_numbers_beyond_that_look_lesser(self):
        for number in [8, 256, 65536, 2 ** 31, LAST]:
            self.assertEqual(ask(take("weight w 2\n"), witness(number))[1], [-4])

    def test_a_refusal_leaves_the_object(self):
        answered = ask(take("weight w 2\n"), witness(1), TEXT, SIZES, witness(0))
        self.assertEqual(answered[2:], [told("weight w 2\n"), [0, 0, 1, 1], told("w")])

    def test_a_witness_of_a_refused_more(self):
        answered = ask(take("weight w 2\n"), more("weight v 2\nweight w 2\n"), witness(1), more("weight u 1\n"),
                       witness(1))
        self.assertEqual(answered[1:], [[-6, 2, 4], [-4], [0], told("u")])


if __name__ == "__main__":
    unittest.main()
