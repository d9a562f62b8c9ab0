import unittest

from tests.lines import HIGHEST, ask, begins, order, pass_test, test_call
from testsfirst.orders import answers


class PassAnswers(unittest.TestCase):
    def test_whole_list_of_answers(self):
        self.assertEqual(
            answers([0, 10, 2, 5, 7, 1, 3, 2, 0, 0, 1, 4, 5, 1, 0, 2, 1, 2, 0]),
            [1, 0, 1, 0, 1, 1, 1, 11, 1, 8],
        )

    def test_time_without_a_setting_that_takes_time(self):
        self.assertEqual(ask(test_call(10000), test_call(1), pass_test(1), pass_test(0)), [[0], [1], [1], [10000]])

    def test_longest_setting_and_longest_test(self):
        self.assertEqual(ask(begins(2, [10000]), test_call(10000), pass_test(0)), [[0], [0], [20000]])

    def test_setting_that_is_up_is_not_set_up_again(self):
        self.assertEqual(
            ask(begins(2, [30]), test_call(4), test_call(5), pass_test(0), pass_test(1)),
            [[0], [0], [1], [34], [5]],
        )

    def test_setting_before_is_not_up_any_more(self):
        self.assertEqual(
            ask(
                begins(2, [30, 40]), test_call(1, 0, 0), test_call(2, 0, 1), test_call(3, 0, 0), test_call(4, 0, 1),
                pass_test(0), pass_test(1), pass_test(2), pass_test(3),
            )[5:],
            [[31], [42], [33], [44]],
        )

    def test_needs_that_have_passed(self):
        self.assertEqual(
            ask(
                test_call(1), test_call(2), test_call(3, 0, 0, [0, 1]),
                pass_test(1), pass_test(0), pass_test(2),
            )[3:],
            [[2], [1], [3]],
        )

    def test_what_passed_is_no_longer_in_the_order(self):
        self.assertEqual(
            ask(test_call(1), test_call(2), pass_test(0), order(), pass_test(1), order())[2:],
            [[1], [1, 1, 2000000], [2], [0, 0]],
        )


class PassRefuses(unittest.TestCase):
    def test_no_such_test(self):
        self.assertEqual(ask(pass_test(0)), [[-2]])
        for number in [1, 2, 6, HIGHEST]:
            with self.subTest(number=number):
                self.assertEqual(ask(test_call(1), pass_test(number)), [[0], [-2]])

    def test_passed_already(self):
        self.assertEqual(
            ask(test_call(1), test_call(2, 0, 0, [0]), pass_test(0), pass_test(0), pass_test(1), pass_test(1), pass_test(0))[2:],
            [[1], [-4], [2], [-4], [-4]],
        )

    def test_needs_that_have_not_passed(self):
        self.assertEqual(ask(test_call(1), test_call(2, 0, 0, [0]), pass_test(1)), [[0], [1], [-5]])

    def test_one_need_of_several_has_not_passed(self):
        for passed in [0, 1]:
            with self.subTest(passed=passed):
                self.assertEqual(
                    ask(test_call(1), test_call(1), test_call(2, 0, 0, [0, 1]), pass_test(passed), pass_test(2))[4],
                    [-5],
                )

    def test_number_is_told_anew_after_begins(self):
        self.assertEqual(
            ask(test_call(1), test_call(1), begins(2, [0]), test_call(1), pass_test(1), pass_test(0))[4:],
            [[-2], [1]],
        )


class AfterARefusal(unittest.TestCase):
    BEFORE = [begins(10, [5, 50]), test_call(3, 9, 1), test_call(2, 1, 0), test_call(1, 5, 1, [0]), pass_test(1)]
    BEHIND = [order(), pass_test(0), pass_test(2), pass_test(1), order()]

    def test_all_is_as_it_was(self):
        expected = ask(*self.BEFORE, *self.BEHIND)
        for number, refusal in [(3, -2), (HIGHEST, -2), (1, -4), (2, -5)]:
            with self.subTest(number=number):
                told = ask(*self.BEFORE, pass_test(number), *self.BEHIND)
                self.assertEqual(told[5], [refusal])
                self.assertEqual(told[:5] + told[6:], expected)

    def test_a_repeated_pass_does_not_bring_its_setting_up(self):
        self.assertEqual(
            ask(
                begins(2, [30, 40]), test_call(1, 0, 0), test_call(1, 0, 1), test_call(1, 0, 1),
                pass_test(0), pass_test(1), pass_test(0), pass_test(2),
            )[4:],
            [[31], [41], [-4], [1]],
        )


if __name__ == "__main__":
    unittest.main()
