import unittest

from tests.lines import HIGHEST, ask, begins, open_tests, order, pass_test, price, test_call, within
from testsfirst.orders import answers


class PriceAnswers(unittest.TestCase):
    def last(self, *calls):
        return ask(*calls)[-1]

    def test_whole_list_of_answers(self):
        self.assertEqual(
            answers([0, 10, 1, 0, 1, 8, 2, 0, 0, 1, 4, 5, 0, 0, 4, 2, 0, 1, 4, 2, 1, 0, 4, 1, 1, 4, 0]),
            [1, 0, 1, 0, 1, 1, 2, 11200000, 12, 2, 8000000, 12, 2, 4000000, 4, 2, 0, 0],
        )

    def test_the_empty_order(self):
        self.assertEqual(answers([4, 0]), [2, 0, 0])
        calls = [begins(10, [7]), test_call(3, 2)]
        self.assertEqual(self.last(*calls, price([])), [0, 0])
        self.assertEqual(self.last(*calls, pass_test(0), price([])), [0, 0])

    def test_one_test_takes_all_of_its_time_even_if_it_fails(self):
        for failures in [0, 1, 99]:
            with self.subTest(failures=failures):
                self.assertEqual(self.last(begins(100, [7]), test_call(3, failures), price([0])), [10000000, 10])

    def test_the_longest_of_all(self):
        calls = [begins(100, [10000] * 2)] + [test_call(10000, 0, number % 2) for number in range(6)]
        self.assertEqual(self.last(*calls, price(range(6))), [120000000000, 120000])

    def test_none_ever_fails(self):
        self.assertEqual(self.last(test_call(9), test_call(1), price([1, 0])), [10000000, 10])

    def test_orders_that_are_not_whole(self):
        calls = [begins(10, [0]), test_call(10, 1), test_call(10, 9), test_call(1, 5)]
        told = ask(*calls, price([2]), price([2, 1]), price([2, 1, 0]), price([0, 2]), price([1]))
        self.assertEqual(told[4:], [[1000000, 1], [6000000, 11], [6500000, 21], [10900000, 11], [10000000, 10]])

    def test_the_best_order_is_priced_as_order_tells(self):
        calls = [begins(10, [5, 7]), test_call(3, 2, 0), test_call(4, 5, 1), test_call(1, 1, 1, [0])]
        self.assertEqual(ask(*calls, order(), price([0, 1, 2]))[4:], [[3, 0, 1, 2, 17200000], [17200000, 20]])

    def test_needs_before_it_in_the_order(self):
        calls = [begins(2, [0]), test_call(1, 1), test_call(2, 1), test_call(4, 1, 0, [0, 1])]
        self.assertEqual(ask(*calls, price([0, 1, 2]), price([1, 0, 2]))[4:], [[3000000, 7], [3500000, 7]])

    def test_needs_partly_passed_and_partly_before_it(self):
        calls = [begins(2, [0]), test_call(1, 1), test_call(2, 1), test_call(4, 1, 0, [0, 1]), pass_test(0)]
        self.assertEqual(self.last(*calls, price([1, 2])), [4000000, 6])

    def test_a_change_of_settings_and_back(self):
        calls = [begins(2, [10, 20]), test_call(1, 1, 0), test_call(2, 1, 1), test_call(3, 1, 0)]
        told = ask(*calls, price([0, 1, 2]), price([0, 2, 1]), price([1]))
        self.assertEqual(told[4:], [[25250000, 46], [18000000, 36], [22000000, 22]])

    def test_the_setting_that_is_up_counts(self):
        calls = [begins(2, [10, 20]), test_call(1, 1, 0), test_call(2, 1, 1), test_call(3, 1, 0)]
        rows = [price([2]), price([1]), price([2, 1]), price([1, 2])]
        self.assertEqual(
            ask(*calls, pass_test(0), *rows)[5:],
            [[3000000, 3], [22000000, 22], [14000000, 25], [28500000, 35]],
        )

    def test_begins_takes_the_setting_down(self):
        calls = [begins(2, [10]), test_call(1), pass_test(0), begins(2, [10]), test_call(1), price([0])]
        self.assertEqual(self.last(*calls), [11000000, 11])

    def test_price_changes_nothing(self):
        calls = [begins(9, [4, 5]), test_call(7, 2, 1), test_call(3, 3, 0), test_call(3, 3, 1, [0])]
        told = ask(*calls, price([0, 2]), price([0, 2]), open_tests(), pass_test(1), pass_test(0), price([2]))
        self.assertEqual(told[4], told[5])
        self.assertEqual(told[6:], [[2, 0, 1], [7], [12], [3000000, 3]])


class Rounding(unittest.TestCase):
    def test_down(self):
        told = ask(begins(3, [0]), test_call(1, 1), test_call(1, 1), price([0, 1]))
        self.assertEqual(told[-1], [1666666, 2])

    def test_once(self):
        # 1 + 2/3 + 4/9; two thirds and four ninths rounded each by itself make one less.
        told = ask(begins(3, [0]), *[test_call(1, 1)] * 3, price([2, 0, 1]))
        self.assertEqual(told[-1], [2111111, 3])

    def test_exact_where_the_fraction_is_long(self):
        # 10000 * (1 - q^6) / (1 - q), where q is 96/97.
        told = ask(begins(97, [0]), *[test_call(10000, 1)] * 6, price([5, 4, 3, 2, 1, 0]))
        self.assertEqual(told[-1], [58474700815, 60000])


class PriceRefuses(unittest.TestCase):
    CALLS = [begins(10, [5, 7]), test_call(3, 2, 0), test_call(4, 5, 1), test_call(1, 1, 1, [0]), test_call(2)]

    def assert_no_order(self, row, *calls):
        with self.subTest(row=row):
            self.assertEqual(ask(*(calls or self.CALLS), price(row))[-1], [-5])

    def test_without_tests(self):
        for row in [[0], [1], [HIGHEST], [0] * 10]:
            self.assertEqual(ask(price(row)), [[-5]])

    def test_a_test_that_is_not_there(self):
        for number in [4, 5, 6, 10, HIGHEST]:
            for row in [[number], [number, 0], [0, number], [0, 1, 2, 3, number], [0, number, 1]]:
                self.assert_no_order(row)

    def test_one_behind_six_tests(self):
        calls = [test_call(1)] * 6
        self.assertEqual(ask(*calls, price([5]))[-1], [1000000, 1])
        self.assert_no_order([6], *calls)

    def test_a_test_of_the_house_before(self):
        self.assert_no_order([1], test_call(1), test_call(1), begins(2, [0]), test_call(1))

    def test_a_test_that_has_passed(self):
        for row in [[0], [0, 2], [1, 0], [2, 0], [3, 2, 1, 0]]:
            self.assert_no_order(row, *self.CALLS, pass_test(0))

    def test_a_test_twice(self):
        for row in [[0, 0], [0, 1, 0], [1, 0, 0], [3, 0, 1, 2, 3]]:
            self.assert_no_order(row)

    def test_needs_that_come_later(self):
        for row in [[2, 0], [1, 2, 0], [2, 0, 1, 3]]:
            self.assert_no_order(row)

    def test_needs_that_do_not_come(self):
        for row in [[2], [1, 2], [1, 3, 2]]:
            self.assert_no_order(row)

    def test_one_need_of_several_is_missing(self):
        calls = [test_call(1), test_call(1), test_call(1, 0, 0, [0, 1])]
        for row in [[0, 2], [1, 2], [0, 2, 1], [2]]:
            self.assert_no_order(row, *calls)
        self.assert_no_order([2], *calls, pass_test(0))
        self.assert_no_order([2], *calls, pass_test(1))

    def test_rows_of_seven_to_ten(self):
        calls = [test_call(1)] * 6
        for count in [7, 8, 9, 10]:
            self.assert_no_order(list(range(count)), *calls)
            self.assert_no_order([0, 1, 2, 3, 4, 5] + [0] * (count - 6), *calls)

    def test_a_refused_row_is_read_to_its_end(self):
        self.assertEqual(answers([4, 10] + [3] * 10 + [4, 2, 6, 6, 6]), [1, -5, 1, -5, 1, 0])


class AfterARefusal(unittest.TestCase):
    BEFORE = [begins(10, [5, 50]), test_call(3, 9, 1), test_call(2, 1, 0), test_call(1, 5, 1, [0]), pass_test(1)]
    BEHIND = [
        order(), price([0, 2]), within(60), open_tests(), test_call(1), pass_test(0), pass_test(2), pass_test(1), order(),
    ]

    def test_all_is_as_it_was(self):
        expected = ask(*self.BEFORE, *self.BEHIND)
        for row in [[3], [HIGHEST], [1], [0, 0], [0, 2, 1], [0, 2, 3], [2, 0], [2], [0, 2] * 5]:
            with self.subTest(row=row):
                told = ask(*self.BEFORE, price(row), *self.BEHIND)
                self.assertEqual(told[5], [-5])
                self.assertEqual(told[:5] + told[6:], expected)


if __name__ == "__main__":
    unittest.main()
