import unittest
from time import monotonic

from tests.lines import (
    HIGHEST, begins, flat, model_answers, open_tests, order, pass_test, price, split_answers, test_call, within,
)
from testsfirst.orders import answers

LINE = flat([
    begins(10, [5, 7]), test_call(3, 2, 0), test_call(4, 5, 1), test_call(1, 1, 1, [0]), order(),
    pass_test(2), pass_test(0), begins(1, [0]), order(), test_call(1, 0, 0, [1, 0]), pass_test(0),
    price([1, 2]), price([0]), within(11), within(12), within(0), open_tests(),
])
TOLD = [
    1, 0, 1, 0, 1, 1, 1, 2, 5, 3, 0, 1, 2, 17200000, 1, -5, 1, 8, 1, -1, 4, 2, 1, 2, 11500000, 1, -2, 1, -4,
    2, 11500000, 12, 1, -5, 3, 500000, 11, 1, 4, 550000, 12, 1, 2, 2, 0, 0, 3, 2, 1, 2,
]


class Unchanging(list):
    def refuse(self, *args, **kwargs):
        raise AssertionError("the list that is handed in was changed")

    append = clear = extend = insert = pop = remove = reverse = sort = refuse
    __setitem__ = __delitem__ = __iadd__ = __imul__ = refuse


class Interface(unittest.TestCase):
    def test_each_answer_has_its_count_before_it(self):
        self.assertEqual(answers(LINE), TOLD)

    def test_answers_are_a_list_of_plain_whole_numbers(self):
        told = answers(LINE)
        self.assertIs(type(told), list)
        self.assertEqual({type(number) for number in told}, {int})

    def test_what_is_handed_in_is_not_changed(self):
        line = list(LINE)
        answers(line)
        self.assertEqual(line, LINE)

    def test_nothing_is_kept_from_one_time_to_the_next(self):
        line = list(LINE)
        self.assertEqual(answers(line), TOLD)
        self.assertEqual(answers(line), TOLD)
        self.assertEqual(answers([3, 1, 5, 1, 0, 0, 2, 0]), [2, 0, 0, 1, 0, 1, 5])
        self.assertEqual(answers(line), TOLD)

    def test_answers_may_be_changed_without_effect(self):
        answers(LINE).clear()
        self.assertEqual(answers(LINE), TOLD)

    def test_a_line_of_sixty_calls(self):
        calls = [test_call(1, 1)] * 6 + [test_call(1)] * 44 + [order()] * 10
        each = [7 + 1, 6, 0, 1, 2, 3, 4, 5, 1968750]
        numbered = [number for count in range(6) for number in (1, count)]
        self.assertEqual(answers(flat(calls)), numbered + [1, -7] * 44 + each * 10)

    def test_rows_of_ten_numbers_are_read_to_their_end(self):
        self.assertEqual(
            answers([0, 2, 10] + [3] * 10 + [1, 1, 0, 0, 10] + [3] * 10 + [4, 10] + [3] * 10 + [3]),
            [1, -1, 1, -2, 1, -5, 2, 0, 0],
        )

    def test_the_list_is_not_changed_while_it_is_answered_either(self):
        self.assertEqual(answers(Unchanging(LINE)), TOLD)

    def test_six_tests_and_ten_searches_take_no_more_than_seconds(self):
        calls = [begins(97, [7, 1, 3, 20])]
        calls += [test_call(time, 90 - 2 * time, time % 4) for time in [30, 2, 17, 9, 41, 5]]
        calls += [order(), within(60), within(HIGHEST), order(), within(100)] * 2
        start = monotonic()
        told = answers(flat(calls))
        self.assertLess(monotonic() - start, 5)
        self.assertEqual(split_answers(told, len(calls)), model_answers(calls))


if __name__ == "__main__":
    unittest.main()
