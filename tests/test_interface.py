"""heardcase.desk.answers: how calls stand in the list, and answers behind one another."""

import unittest

from heardcase.desk import answers
from tests.asking import LAST, boat, claim, lines, more, numbers, rules, take, turn, witness

A_CASE = numbers("claim a\nsays w a\n")
CALLS = [2, 3, 0, len(A_CASE)] + A_CASE + [4, 0, 0, 4, 0, 1, 4, 0, 2, 4, 1, 0, 1, 1, 99, 3, 0, 0, 1, 1, 10, 2]
ANSWERS = [1, 0, 4, 0, 0, 0, 0, 1, 0, 3, 0, 1, 3, 3, 0, 3, 3, 1, -8, 1, -4, 3, -6, 2, 1, 4, 0, 1, 1, 2, 1, 0,
           3, -6, 0, 1, 1, 0]

# q is named in lines 3 and 4; a is proved by w, b by the rule in line 2.
B_CASE = numbers("claim a\nclaim b\nfor b if a\npenalty q 7 if b\nredress q if open b\nsays wu a\n")
ALL_CALLS = ([0, len(B_CASE)] + B_CASE + [5, 1, 0, 5, 1, 1, 6, 0, 1, 113, 6, 1, 1, 113, 7, 0, 8, 1, 4, 1, 0]
             + [3, 1, 7] + numbers("seen b\n") + [8, 1, 8, 0, 8, 2, 7, 1, 6, 0, 0, 6, 2, 1, 113, 5, 0, 2, 5, 2, 0, 2])
ALL_ANSWERS = ([1, 0, 2, 1, 2, 1, 0, 3, 0, 7, 0, 3, 0, 0, 1, 3, 2, 119, 117, 2, 1, 1, 3, 0, 1, 2, 4, 0, 2, 1, 6, 1, 0]
               + [1, -3, 2, 1, 1, 1, -4, 1, -4, 1, -8, 1, -8, 1, -8, 1, -4, len(B_CASE) + 8, len(B_CASE) + 7]
               + B_CASE + numbers("seen b\n"))


def full_list(texts):
    """300 calls, all nine among one another, that have 30000 numbers together."""
    looks = [[2], [3], claim(1), claim(1, 1), rules(1), rules(1, 1), boat("q"), boat("q", 1), boat("q" * 13),
             witness(0), witness(9), turn(1), turn(0), turn(LAST), boat("r"), rules(LAST, LAST)]
    calls = []
    for k in range(299):
        calls.append(texts[k // 7 % len(texts)] if k % 7 == 0 else looks[k % len(looks)])
    flat = [number for call in calls for number in call]
    return flat + [0, 29998 - len(flat)] + [10] * (29998 - len(flat))


class InterfaceTest(unittest.TestCase):
    def test_each_call_alone(self):
        self.assertEqual(answers([0, 0]), [1, 0])
        self.assertEqual(answers([1, 0]), [1, 0])
        self.assertEqual(answers([2]), [1, 0])
        self.assertEqual(answers([3]), [4, 0, 0, 0, 0])
        self.assertEqual(answers([4, 0, 0]), [1, -4])
        self.assertEqual(answers([5, 0, 0]), [1, -4])
        self.assertEqual(answers([5, 0, 1]), [1, -8])
        self.assertEqual(answers([6, 0, 0]), [1, -8])
        self.assertEqual(answers([6, 0, 1, 113]), [3, 0, 0, 0])
        self.assertEqual(answers([7, 0]), [1, -4])
        self.assertEqual(answers([8, 0]), [1, -4])
        self.assertEqual(answers([0, len(A_CASE)] + A_CASE), [1, 0])
        self.assertEqual(answers([1, len(A_CASE)] + A_CASE), [1, 0])
        self.assertEqual(answers([0, 1, 10]), [3, -6, 0, 1])

    def test_calls_behind_one_another(self):
        self.assertEqual(answers(CALLS), ANSWERS)

    def test_all_nine_calls_behind_one_another(self):
        self.assertEqual(answers(ALL_CALLS), ALL_ANSWERS)
        self.assertEqual(answers(ALL_CALLS + ALL_CALLS), ALL_ANSWERS + ALL_ANSWERS)

    def test_numbers_that_look_like_calls_are_a_name(self):
        self.assertEqual(answers([6, 0, 9, 0, 1, 2, 3, 4, 5, 6, 7, 8, 3]), [1, -8, 4, 0, 0, 0, 0])
        self.assertEqual(answers([6, 3, 2, 3, 3, 7, 8, 8, 7]), [1, -8, 1, -4, 1, -4])

    def test_the_longest_name(self):
        for byte in [0, 97, 255]:
            self.assertEqual(answers([6, 0, 1000] + [byte] * 1000 + [3]), [1, -8, 4, 0, 0, 0, 0])

    def test_a_text_is_answered_with_its_count_among_the_answers(self):
        text = numbers("claim a\n")
        self.assertEqual(answers([0, 8] + text + [2]), [1, 0, 9, 8] + text)

    def test_bytes_that_look_like_calls_are_text(self):
        self.assertEqual(answers([0, 3, 2, 3, 4, 3]), [3, -6, 0, 1, 4, 0, 0, 0, 0])
        self.assertEqual(answers([1, 2, 0, 0, 2]), [3, -6, 0, 1, 1, 0])

    def test_the_list_is_the_same_afterwards(self):
        for given in [CALLS, ALL_CALLS]:
            calls = list(given)
            answers(calls)
            self.assertEqual(calls, given)

    def test_the_list_is_never_changed_for_a_while_either(self):
        class Fixed(list):
            def refuse(self, *given):
                raise AssertionError("the list was changed")
            append = extend = insert = pop = remove = clear = sort = reverse = refuse
            __setitem__ = __delitem__ = __iadd__ = __imul__ = refuse

        self.assertEqual(answers(Fixed(ALL_CALLS)), ALL_ANSWERS)

    def test_the_same_list_twice(self):
        self.assertEqual(answers(CALLS), answers(CALLS))
        self.assertEqual(answers(ALL_CALLS), answers(ALL_CALLS))
        answers([0, len(A_CASE)] + A_CASE)
        self.assertEqual(answers([2, 3]), [1, 0, 4, 0, 0, 0, 0])

    def test_an_answer_may_be_changed(self):
        given = answers(CALLS)
        given.clear()
        self.assertEqual(answers(CALLS), ANSWERS)

    def test_answers_are_whole_numbers_in_a_list(self):
        for calls in [CALLS, ALL_CALLS]:
            given = answers(calls)
            self.assertIs(type(given), list)
            self.assertEqual({type(number) for number in given}, {int})

    def test_300_calls(self):
        self.assertEqual(answers([3] * 300), [4, 0, 0, 0, 0] * 300)
        self.assertEqual(answers([4, 0, 0] * 300), [1, -4] * 300)
        self.assertEqual(answers([8, 0] * 300), [1, -4] * 300)

    def test_300_calls_of_30000_numbers(self):
        whos = "".join(f"weight w{k} 2\nsays w{k} a\n" for k in range(8))
        case = "claim a\n" + whos + "claim b\nfor b if a\npenalty q 9 if b\nredress q if not a\n"
        rows = lines("against b if a", "redress q if b a not a", "penalty r 4 if open b")
        calls = full_list([take(case), more(rows), more(rows + "claim"), more(""), take(case + rows), more(rows)])
        self.assertEqual(len(calls), 30000)
        given = list(calls)
        first = answers(calls)
        self.assertEqual(calls, given)
        self.assertEqual(answers(calls), first)
        self.assertEqual(first[:10], [1, 0, 4, 0, 2, 8, 21, 3, 0, 1])
        self.assertEqual(first[-4:], [3, -6, 0, 1])
        count = place = 0
        while place < len(first):
            place += 1 + first[place]
            count += 1
        self.assertEqual((count, place), (300, len(first)))

    def test_turns_of_a_large_case_again_and_again(self):
        rows = [f"claim c{k}" for k in range(64)] + [f"says w{k} c{j}" for k in range(8) for j in range(20)]
        rows += ["for c63 if c0 c1 c2 c3 c4 c5 c6 c7", "against c62 if not c0 open c1 c2"] * 144
        text = numbers(lines(*rows))
        self.assertEqual(len(rows), 512)
        self.assertEqual(answers([0, len(text)] + text + [8, 63] * 299), [1, 0] + [2, 8, 255] * 299)
        self.assertEqual(answers([0, len(text)] + text + [8, 62, 1, 0] * 5), [1, 0] + [1, -3, 1, 0] * 5)

    def test_texts_as_long_as_the_list(self):
        self.assertEqual(answers([0, 29998] + [10] * 29998), [3, -6, 0, 1])
        self.assertEqual(answers([0, 29998] + [97] * 29998), [3, -6, 0, 1])
        self.assertEqual(answers([0, 29998] + [32] * 29998), [3, -6, 0, 1])
        claims = numbers("claim a\nclaim b\n")
        condition = numbers("for b if" + " open a" * 4000 + "\n")
        text = claims + condition
        self.assertEqual(answers([0, len(text)] + text), [3, -6, 2, 1])

    def test_a_long_case(self):
        rows = [f"claim c{k:011d}\n" for k in range(64)]
        conditions = "".join(f" c{k:011d}" for k in range(4))
        while len(rows) < 512 and len("".join(rows)) < 29900:
            rows.append(f"for c{63:011d} if{conditions}\n")
        text = numbers("".join(rows))
        self.assertEqual(answers([0, len(text)] + text + [3]), [1, 0, 4, 0, 64, 0, len(rows)])

    def test_many_small_mores(self):
        calls = [0, len(A_CASE)] + A_CASE
        row = numbers("redress boat if a\n")
        for _ in range(298):
            calls = calls + [1, len(row)] + row
        calls.append(3)
        self.assertEqual(answers(calls), [1, 0] * 299 + [4, 0, 1, 1, 300])

    def test_a_number_of_no_call(self):
        with self.assertRaises(ValueError):
            answers([9])


if __name__ == "__main__":
    unittest.main()
