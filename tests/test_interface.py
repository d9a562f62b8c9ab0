import unittest

from tests.lines import begins, flat, order, pass_test, test_call
from testsfirst.orders import answers

LINE = flat([
    begins(10, [5, 7]), test_call(3, 2, 0), test_call(4, 5, 1), test_call(1, 1, 1, [0]), order(),
    pass_test(2), pass_test(0), begins(1, [0]), order(), test_call(1, 0, 0, [1, 0]), pass_test(0),
])
TOLD = [1, 0, 1, 0, 1, 1, 1, 2, 5, 3, 0, 1, 2, 17200000, 1, -5, 1, 8, 1, -1, 4, 2, 1, 2, 11500000, 1, -2, 1, -4]


class Interface(unittest.TestCase):
    def test_each_answer_has_its_count_before_it(self):
        self.assertEqual(answers(LINE), TOLD)

    def test_answers_are_a_list_of_plain_whole_numbers(self):
        told = answers(LINE)
        self.assertIs(type(told), list)
        self.assertEqual({type(number) for number in told}, {int})

    def test_what_is_handed_in_is_not_changed(self):
        line = list(LINE)
        answers(line)
        self.assertEqual(line, LINE)

    def test_nothing_is_kept_from_one_time_to_the_next(self):
        line = list(LINE)
        self.assertEqual(answers(line), TOLD)
        self.assertEqual(answers(line), TOLD)
        self.assertEqual(answers([3, 1, 5, 1, 0, 0, 2, 0]), [2, 0, 0, 1, 0, 1, 5])
        self.assertEqual(answers(line), TOLD)

    def test_answers_may_be_changed_without_effect(self):
        answers(LINE).clear()
        self.assertEqual(answers(LINE), TOLD)

    def test_a_line_of_sixty_calls(self):
        calls = [test_call(1, 1)] * 6 + [test_call(1)] * 44 + [order()] * 10
        each = [7 + 1, 6, 0, 1, 2, 3, 4, 5, 1968750]
        numbered = [number for count in range(6) for number in (1, count)]
        self.assertEqual(answers(flat(calls)), numbered + [1, -7] * 44 + each * 10)

    def test_rows_of_ten_numbers_are_read_to_their_end(self):
        self.assertEqual(
            answers([0, 2, 10] + [3] * 10 + [1, 1, 0, 0, 10] + [3] * 10 + [3]),
            [1, -1, 1, -2, 2, 0, 0],
        )


if __name__ == "__main__":
    unittest.main()
