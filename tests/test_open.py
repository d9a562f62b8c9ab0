import unittest

from tests.lines import HIGHEST, ask, begins, open_tests, order, pass_test, price, test_call, within
from testsfirst.orders import answers


class OpenAnswers(unittest.TestCase):
    def last(self, *calls):
        return ask(*calls, open_tests())[-1]

    def test_whole_list_of_answers(self):
        self.assertEqual(
            answers([6, 1, 8, 1, 0, 0, 6, 1, 4, 1, 0, 1, 0, 6, 2, 0, 6]),
            [1, 0, 1, 0, 2, 1, 0, 1, 1, 2, 1, 0, 1, 8, 2, 1, 1],
        )

    def test_no_tests(self):
        self.assertEqual(answers([6]), [1, 0])
        self.assertEqual(self.last(begins(100, [10000] * 4)), [0])

    def test_all_passed(self):
        self.assertEqual(self.last(test_call(1), test_call(1), pass_test(1), pass_test(0)), [0])

    def test_without_needs_all_rising(self):
        self.assertEqual(self.last(*[test_call(1)] * 6), [6, 0, 1, 2, 3, 4, 5])

    def test_what_has_passed_is_not_open(self):
        self.assertEqual(self.last(*[test_call(1)] * 6, pass_test(4), pass_test(2)), [4, 0, 1, 3, 5])

    def test_needs_partly_passed(self):
        calls = [test_call(1), test_call(1), test_call(1, 0, 0, [0, 1]), test_call(1, 0, 0, [1])]
        self.assertEqual(self.last(*calls), [2, 0, 1])
        self.assertEqual(self.last(*calls, pass_test(0)), [1, 1])
        self.assertEqual(self.last(*calls, pass_test(1)), [2, 0, 3])
        self.assertEqual(self.last(*calls, pass_test(1), pass_test(0)), [2, 2, 3])

    def test_a_row_of_needs_opens_one_by_one(self):
        calls = [test_call(1)] + [test_call(1, 0, 0, [number]) for number in range(5)]
        told = ask(*calls, *[call for number in range(6) for call in (open_tests(), pass_test(number))], open_tests())
        self.assertEqual(told[6::2], [[1, 0], [1, 1], [1, 2], [1, 3], [1, 4], [1, 5], [0]])

    def test_behind_a_pass_that_is_refused(self):
        calls = [test_call(1), test_call(1, 0, 0, [0])]
        self.assertEqual(self.last(*calls, pass_test(1), pass_test(2), pass_test(HIGHEST)), [1, 0])
        self.assertEqual(self.last(*calls, pass_test(0), pass_test(0)), [1, 1])

    def test_behind_begins(self):
        calls = [test_call(1), test_call(1), pass_test(0)]
        self.assertEqual(self.last(*calls, begins(5, [1])), [0])
        self.assertEqual(self.last(*calls, begins(5, [1]), test_call(1), test_call(1, 0, 0, [0])), [1, 0])
        self.assertEqual(self.last(*calls, begins(1, [1])), [1, 1])

    def test_behind_a_test_that_is_refused(self):
        self.assertEqual(self.last(test_call(1), test_call(0), test_call(1, 0, 0, [1])), [1, 0])

    def test_settings_and_chances_do_not_matter(self):
        calls = [begins(100, [10000, 0]), test_call(10000, 0, 0), test_call(1, 99, 1)]
        self.assertEqual(self.last(*calls), [2, 0, 1])

    def test_questions_before_it_change_nothing(self):
        calls = [test_call(1, 1), test_call(2, 1, 0, [0])]
        self.assertEqual(self.last(*calls, order(), price([0, 1]), price([1]), within(9)), [1, 0])


if __name__ == "__main__":
    unittest.main()
