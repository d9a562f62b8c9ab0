import unittest

from tests.lines import ask, begins, order, pass_test, test_call
from testsfirst.orders import answers


class OrderAnswers(unittest.TestCase):
    def last(self, *calls):
        return ask(*calls, order())[-1]

    def test_whole_list_of_answers(self):
        self.assertEqual(
            answers([0, 10, 1, 0, 1, 8, 2, 0, 0, 1, 4, 5, 0, 0, 3]),
            [1, 0, 1, 0, 1, 1, 4, 2, 1, 0, 8000000],
        )

    def test_no_tests(self):
        self.assertEqual(answers([3]), [2, 0, 0])
        self.assertEqual(self.last(begins(100, [10000])), [0, 0])

    def test_all_tests_passed(self):
        self.assertEqual(self.last(begins(9, [5]), test_call(3, 2), pass_test(0)), [0, 0])

    def test_one_test_takes_all_of_its_time_even_if_it_fails(self):
        for failures in [0, 1, 99]:
            with self.subTest(failures=failures):
                self.assertEqual(self.last(begins(100, [7]), test_call(3, failures)), [1, 0, 10000000])

    def test_often_failing_and_short_ones_come_first(self):
        self.assertEqual(
            self.last(begins(10, [0]), test_call(10, 1), test_call(10, 9), test_call(1, 5)),
            [3, 2, 1, 0, 6500000],
        )

    def test_needs_keep_the_better_order_out(self):
        self.assertEqual(
            self.last(begins(10, [0]), test_call(100, 0), test_call(1, 9, 0, [0])),
            [2, 0, 1, 101000000],
        )

    def test_a_long_one_goes_first_for_what_needs_it(self):
        # Alone 0 is worse than 2, but only behind it may 1 be done, which nearly always fails.
        self.assertEqual(
            self.last(begins(100, [0]), test_call(2, 0), test_call(1, 99, 0, [0]), test_call(10, 5)),
            [3, 0, 1, 2, 3100000],
        )

    def test_needs_that_have_passed_already(self):
        self.assertEqual(
            self.last(begins(10, [0]), test_call(100, 0), test_call(1, 9, 0, [0]), test_call(5, 1), pass_test(0)),
            [2, 1, 2, 1500000],
        )

    def test_a_change_of_settings_decides(self):
        calls = [test_call(10, 1, 0), test_call(10, 1, 1), test_call(10, 1, 0)]
        self.assertEqual(self.last(begins(2, [0, 0]), *calls), [3, 0, 1, 2, 17500000])
        self.assertEqual(self.last(begins(2, [8, 8]), *calls), [3, 0, 2, 1, 27500000])

    def test_the_setting_that_takes_less_goes_first(self):
        self.assertEqual(
            self.last(begins(2, [100, 10]), test_call(1, 1, 0), test_call(1, 1, 1)),
            [2, 1, 0, 61500000],
        )

    def test_the_setting_that_is_up_counts(self):
        calls = [begins(2, [100, 100]), test_call(1, 1, 1), test_call(1, 1, 0), test_call(1, 1, 1)]
        self.assertEqual(self.last(*calls), [3, 0, 2, 1, 126750000])
        self.assertEqual(self.last(*calls, pass_test(0)), [2, 2, 1, 51500000])
        self.assertEqual(self.last(*calls, pass_test(1)), [2, 0, 2, 101500000])

    def test_a_setting_is_set_up_again_after_another(self):
        self.assertEqual(
            self.last(begins(2, [10, 20]), test_call(1, 0, 0), test_call(1, 0, 1, [0]), test_call(1, 0, 0, [1])),
            [3, 0, 1, 2, 43000000],
        )

    def test_order_changes_nothing(self):
        calls = [begins(9, [4, 5]), test_call(7, 2, 1), test_call(3, 3, 0), test_call(3, 3, 1, [0])]
        told = ask(*calls, order(), order(), pass_test(0), order(), order(), pass_test(1))
        self.assertEqual(told[4], told[5])
        self.assertEqual(told[7], told[8])
        self.assertEqual([told[6], told[9]], [[12], [7]])


class Ties(unittest.TestCase):
    def test_equal_tests(self):
        self.assertEqual(
            ask(*[test_call(4, 1)] * 3, order())[-1],
            [3, 0, 1, 2, 7000000],
        )

    def test_none_ever_fails(self):
        self.assertEqual(
            ask(test_call(9), test_call(1), test_call(5), test_call(2), order())[-1],
            [4, 0, 1, 2, 3, 17000000],
        )

    def test_equal_by_time_over_failures(self):
        self.assertEqual(
            ask(begins(10, [0]), test_call(4, 2), test_call(2, 1), test_call(6, 3), order())[-1],
            [3, 0, 1, 2, 9920000],
        )

    def test_first_place_at_which_they_differ_decides(self):
        # 1 goes first of all; then 0, 2 and 3 are equal.
        self.assertEqual(
            ask(begins(10, [0]), test_call(2, 1), test_call(1, 9), test_call(2, 1), test_call(2, 1), order())[-1],
            [4, 1, 0, 2, 3, 1542000],
        )

    def test_averages_closer_than_a_millionth_are_no_tie(self):
        calls = [test_call(2, 1), test_call(1, 1)] + [test_call(1, 99)] * 4
        self.assertEqual(
            ask(begins(100, [0]), *calls, order())[-1],
            [6, 2, 3, 4, 5, 1, 0, 1010101],
        )


class Rounding(unittest.TestCase):
    def test_down(self):
        self.assertEqual(
            ask(begins(3, [0]), test_call(1, 1), test_call(1, 1), order())[-1],
            [2, 0, 1, 1666666],
        )

    def test_once(self):
        # 1 + 2/3 + 4/9; two thirds and four ninths rounded each by itself make one less.
        self.assertEqual(
            ask(begins(3, [0]), *[test_call(1, 1)] * 3, order())[-1],
            [3, 0, 1, 2, 2111111],
        )

    def test_exact_where_the_fraction_is_long(self):
        # 10000 * (1 - q^6) / (1 - q), where q is 96/97.
        self.assertEqual(
            ask(begins(97, [0]), *[test_call(10000, 1)] * 6, order())[-1],
            [6, 0, 1, 2, 3, 4, 5, 58474700815],
        )


if __name__ == "__main__":
    unittest.main()
