"""heardcase.desk.answers: how calls stand in the list, and answers behind one another."""

import unittest

from heardcase.desk import answers
from tests.asking import numbers

A_CASE = numbers("claim a\nsays w a\n")
CALLS = [2, 3, 0, len(A_CASE)] + A_CASE + [4, 0, 0, 4, 0, 1, 4, 0, 2, 4, 1, 0, 1, 1, 99, 3, 0, 0, 1, 1, 10, 2]
ANSWERS = [1, 0, 4, 0, 0, 0, 0, 1, 0, 3, 0, 1, 3, 3, 0, 3, 3, 1, -8, 1, -4, 3, -6, 2, 1, 4, 0, 1, 1, 2, 1, 0,
           3, -6, 0, 1, 1, 0]


class InterfaceTest(unittest.TestCase):
    def test_each_call_alone(self):
        self.assertEqual(answers([0, 0]), [1, 0])
        self.assertEqual(answers([1, 0]), [1, 0])
        self.assertEqual(answers([2]), [1, 0])
        self.assertEqual(answers([3]), [4, 0, 0, 0, 0])
        self.assertEqual(answers([4, 0, 0]), [1, -4])
        self.assertEqual(answers([0, len(A_CASE)] + A_CASE), [1, 0])
        self.assertEqual(answers([1, len(A_CASE)] + A_CASE), [1, 0])
        self.assertEqual(answers([0, 1, 10]), [3, -6, 0, 1])

    def test_calls_behind_one_another(self):
        self.assertEqual(answers(CALLS), ANSWERS)

    def test_a_text_is_answered_with_its_count_among_the_answers(self):
        text = numbers("claim a\n")
        self.assertEqual(answers([0, 8] + text + [2]), [1, 0, 9, 8] + text)

    def test_bytes_that_look_like_calls_are_text(self):
        self.assertEqual(answers([0, 3, 2, 3, 4, 3]), [3, -6, 0, 1, 4, 0, 0, 0, 0])
        self.assertEqual(answers([1, 2, 0, 0, 2]), [3, -6, 0, 1, 1, 0])

    def test_the_list_is_the_same_afterwards(self):
        calls = list(CALLS)
        answers(calls)
        self.assertEqual(calls, CALLS)

    def test_the_same_list_twice(self):
        self.assertEqual(answers(CALLS), answers(CALLS))
        answers([0, len(A_CASE)] + A_CASE)
        self.assertEqual(answers([2, 3]), [1, 0, 4, 0, 0, 0, 0])

    def test_an_answer_may_be_changed(self):
        given = answers(CALLS)
        given.clear()
        self.assertEqual(answers(CALLS), ANSWERS)

    def test_answers_are_whole_numbers_in_a_list(self):
        given = answers(CALLS)
        self.assertIs(type(given), list)
        self.assertEqual({type(number) for number in given}, {int})

    def test_300_calls(self):
        self.assertEqual(answers([3] * 300), [4, 0, 0, 0, 0] * 300)
        self.assertEqual(answers([4, 0, 0] * 300), [1, -4] * 300)

    def test_texts_as_long_as_the_list(self):
        self.assertEqual(answers([0, 29998] + [10] * 29998), [3, -6, 0, 1])
        self.assertEqual(answers([0, 29998] + [97] * 29998), [3, -6, 0, 1])
        self.assertEqual(answers([0, 29998] + [32] * 29998), [3, -6, 0, 1])
        claims = numbers("claim a\nclaim b\n")
        condition = numbers("for b if" + " open a" * 4000 + "\n")
        text = claims + condition
        self.assertEqual(answers([0, len(text)] + text), [3, -6, 2, 1])

    def test_a_long_case(self):
        rows = [f"claim c{k:011d}\n" for k in range(64)]
        conditions = "".join(f" c{k:011d}" for k in range(4))
        while len(rows) < 512 and len("".join(rows)) < 29900:
            rows.append(f"for c{63:011d} if{conditions}\n")
        text = numbers("".join(rows))
        self.assertEqual(answers([0, len(text)] + text + [3]), [1, 0, 4, 0, 64, 0, len(rows)])

    def test_many_small_mores(self):
        calls = [0, len(A_CASE)] + A_CASE
        row = numbers("redress boat if a\n")
        for _ in range(298):
            calls = calls + [1, len(row)] + row
        calls.append(3)
        self.assertEqual(answers(calls), [1, 0] * 299 + [4, 0, 1, 1, 300])

    def test_a_number_of_no_call(self):
        with self.assertRaises(ValueError):
            answers([9])


if __name__ == "__main__":
    unittest.main()
