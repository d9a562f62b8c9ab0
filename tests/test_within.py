import unittest

from tests.lines import HIGHEST, ask, begins, open_tests, order, pass_test, price, test_call, within
from testsfirst.orders import answers


def told_within(calls, *times):
    return ask(*calls, *[within(time) for time in times])[len(calls):]


class WithinAnswers(unittest.TestCase):
    def test_whole_list_of_answers(self):
        self.assertEqual(
            answers([0, 10, 1, 0, 1, 8, 2, 0, 0, 1, 4, 5, 0, 0, 5, 3, 5, 4, 5, 11, 5, 12]),
            [1, 0, 1, 0, 1, 1, 2, 0, 0, 3, 500000, 4, 1, 3, 500000, 4, 1, 4, 600000, 12, 0, 1],
        )

    def test_no_tests(self):
        self.assertEqual(answers([5, 0]), [2, 0, 0])
        self.assertEqual(told_within([begins(100, [10000])], 0, 1, HIGHEST), [[0, 0]] * 3)

    def test_all_tests_passed(self):
        calls = [begins(9, [5]), test_call(3, 2), test_call(1, 8), pass_test(0), pass_test(1)]
        self.assertEqual(told_within(calls, 0, 10, HIGHEST), [[0, 0]] * 3)

    def test_a_time_of_zero(self):
        self.assertEqual(told_within([test_call(1, 1)], 0), [[0, 0]])
        self.assertEqual(told_within([test_call(1, 1), test_call(1, 1), pass_test(0)], 0), [[0, 0]])

    def test_just_enough_and_one_less(self):
        calls = [begins(4, [7]), test_call(3, 1)]
        self.assertEqual(told_within(calls, 9, 10, 11), [[0, 0], [250000, 10, 0], [250000, 10, 0]])

    def test_just_enough_for_all_and_one_less(self):
        calls = [begins(4, [0]), test_call(3, 1), test_call(5, 2), test_call(2, 3)]
        self.assertEqual(
            told_within(calls, 10, 9, 8, 7, 6, 5, 4, 2, 1),
            [
                [906250, 10, 0, 1, 2], [875000, 7, 1, 2], [875000, 7, 1, 2], [875000, 7, 1, 2],
                [812500, 5, 0, 2], [812500, 5, 0, 2], [750000, 2, 2], [750000, 2, 2], [0, 0],
            ],
        )

    def test_the_highest_time(self):
        calls = [begins(100, [10000] * 2)] + [test_call(10000, 50, number % 2) for number in range(6)]
        self.assertEqual(told_within(calls, HIGHEST), [[984375, 80000, 0, 2, 4, 1, 3, 5]])

    def test_more_likely_goes_before_shorter(self):
        calls = [begins(100, [0]), test_call(1, 50), test_call(9, 51)]
        self.assertEqual(told_within(calls, 8, 9, 10), [[500000, 1, 0], [510000, 9, 1], [755000, 10, 0, 1]])

    def test_two_may_show_more_than_the_likeliest(self):
        calls = [begins(10, [0]), test_call(6, 7), test_call(3, 5), test_call(3, 5)]
        self.assertEqual(told_within(calls, 6), [[750000, 6, 1, 2]])

    def test_the_likeliest_may_show_more_than_two(self):
        calls = [begins(10, [0]), test_call(3, 5), test_call(3, 5), test_call(6, 8)]
        self.assertEqual(told_within(calls, 6), [[800000, 6, 2]])

    def test_within_changes_nothing(self):
        calls = [begins(9, [4, 5]), test_call(7, 2, 1), test_call(3, 3, 0), test_call(3, 3, 1, [0])]
        told = ask(*calls, within(30), within(30), open_tests(), pass_test(1), pass_test(0), price([2]))
        self.assertEqual(told[4], told[5])
        self.assertEqual(told[6:], [[2, 0, 1], [7], [12], [3000000, 3]])


class Needs(unittest.TestCase):
    CALLS = [begins(10, [0]), test_call(4, 0), test_call(1, 9, 0, [0]), test_call(5, 2)]

    def test_what_never_fails_is_done_for_what_needs_it(self):
        self.assertEqual(
            told_within(self.CALLS, 4, 5, 9, 10),
            [[0, 0], [900000, 5, 0, 1], [900000, 5, 0, 1], [920000, 10, 0, 1, 2]],
        )

    def test_needs_that_have_passed_already(self):
        self.assertEqual(told_within(self.CALLS + [pass_test(0)], 0, 1, 6), [[0, 0], [900000, 1, 1], [920000, 6, 1, 2]])

    def test_a_row_of_needs(self):
        calls = [begins(2, [0]), test_call(1), test_call(1, 0, 0, [0]), test_call(1, 1, 0, [0, 1])]
        self.assertEqual(told_within(calls, 2, 3), [[0, 0], [500000, 3, 0, 1, 2]])

    def test_the_likelier_one_may_be_out_of_reach(self):
        calls = [begins(10, [0]), test_call(9, 1), test_call(1, 9, 0, [0]), test_call(2, 1), test_call(3, 2, 0, [2])]
        self.assertEqual(told_within(calls, 9), [[280000, 5, 2, 3]])


class Settings(unittest.TestCase):
    CALLS = [begins(10, [100, 10]), test_call(1, 5, 0), test_call(1, 4, 1), test_call(1, 4, 0)]

    def test_the_time_of_the_setting_counts(self):
        self.assertEqual(
            told_within(self.CALLS, 10, 11, 100, 101, 102, 112, 113),
            [
                [0, 0], [400000, 11, 1], [400000, 11, 1], [500000, 101, 0],
                [700000, 102, 0, 2], [700000, 102, 0, 2], [820000, 113, 0, 2, 1],
            ],
        )

    def test_the_setting_that_is_up_counts(self):
        self.assertEqual(
            told_within(self.CALLS + [pass_test(2)], 0, 1, 11, 12, HIGHEST),
            [[0, 0], [500000, 1, 0], [500000, 1, 0], [700000, 12, 0, 1], [700000, 12, 0, 1]],
        )
        self.assertEqual(
            told_within(self.CALLS + [pass_test(1)], 100, 101, 102),
            [[0, 0], [500000, 101, 0], [700000, 102, 0, 2]],
        )

    def test_begins_takes_the_setting_down(self):
        calls = [begins(2, [10]), test_call(1), pass_test(0), begins(2, [10]), test_call(1, 1)]
        self.assertEqual(told_within(calls, 10, 11), [[0, 0], [500000, 11, 0]])

    def test_the_setting_before_is_not_up_any_more(self):
        calls = [begins(2, [10, 20]), test_call(1, 1, 0), test_call(1, 1, 1, [0]), test_call(1, 1, 0, [1])]
        self.assertEqual(told_within(calls, 42, 43), [[750000, 32, 0, 1], [875000, 43, 0, 1, 2]])


class Ties(unittest.TestCase):
    def test_a_chance_of_zero_is_the_empty_order(self):
        calls = [begins(100, [0]), test_call(1), test_call(1), test_call(10000)]
        self.assertEqual(told_within(calls, 0, 1, 2, HIGHEST), [[0, 0]] * 4)

    def test_what_never_fails_is_left_out(self):
        calls = [begins(2, [0]), test_call(1), test_call(4, 1), test_call(1)]
        self.assertEqual(told_within(calls, 4, 5, HIGHEST), [[500000, 4, 1]] * 3)

    def test_an_order_that_is_over_goes_before_one_that_goes_on(self):
        calls = [begins(2, [0]), test_call(4, 1), test_call(1)]
        self.assertEqual(told_within(calls, 4, 5), [[500000, 4, 0]] * 2)

    def test_same_chance_the_least_length(self):
        calls = [begins(2, [0]), test_call(5, 1), test_call(3, 1), test_call(4, 1)]
        self.assertEqual(told_within(calls, 2, 3, 5, 6), [[0, 0]] + [[500000, 3, 1]] * 3)

    def test_same_chance_of_one_and_of_two(self):
        # Three quarters, either by one test or by two.
        for one, each, expected in [(9, 5, [2]), (11, 5, [0, 1]), (10, 5, [0, 1])]:
            with self.subTest(one=one):
                calls = [begins(100, [0]), test_call(each, 50), test_call(each, 50), test_call(one, 75)]
                self.assertEqual(told_within(calls, 11), [[750000, min(one, 2 * each), *expected]])

    def test_same_tests_in_the_order_that_is_shorter(self):
        calls = [begins(2, [3, 3]), test_call(1, 1, 0), test_call(1, 1, 1), test_call(1, 1, 0)]
        self.assertEqual(told_within(calls, 8, 9, 12), [[750000, 5, 0, 2]] + [[875000, 9, 0, 2, 1]] * 2)

    def test_the_setting_that_is_up_goes_first(self):
        calls = [begins(2, [3, 3]), test_call(1, 1, 0), test_call(1, 1, 1), test_call(1, 1, 1), pass_test(2)]
        self.assertEqual(told_within(calls, HIGHEST), [[750000, 5, 1, 0]])

    def test_same_chance_and_length_the_lower_test(self):
        calls = [begins(2, [0]), *[test_call(2, 1)] * 4]
        self.assertEqual(
            told_within(calls, 2, 4, 7, 8),
            [[500000, 2, 0], [750000, 4, 0, 1], [875000, 6, 0, 1, 2], [937500, 8, 0, 1, 2, 3]],
        )

    def test_first_place_at_which_they_differ_decides(self):
        # 1 and 2 must be there, and 0 may be; the order with 0 before them comes first.
        calls = [begins(10, [0]), test_call(2, 5), test_call(1, 9), test_call(1, 8), test_call(2, 5)]
        self.assertEqual(told_within(calls, 4), [[990000, 4, 0, 1, 2]])

    def test_the_lower_test_first_in_an_order_of_more_or_of_fewer(self):
        more_first = [begins(100, [0]), test_call(5, 50), test_call(5, 50), test_call(10, 75)]
        self.assertEqual(told_within(more_first, 10), [[750000, 10, 0, 1]])
        fewer_first = [begins(100, [0]), test_call(10, 75), test_call(5, 50), test_call(5, 50)]
        self.assertEqual(told_within(fewer_first, 10), [[750000, 10, 0]])

    def test_behind_an_equal_beginning_an_order_of_more_or_of_fewer(self):
        # 0 is done for all the others; behind it [1] or [2, 3], then [1, 2] or [3].
        fewer_first = [
            begins(100, [0]), test_call(1), test_call(10, 75, 0, [0]), test_call(5, 50, 0, [0]), test_call(5, 50, 0, [0]),
        ]
        self.assertEqual(told_within(fewer_first, 11), [[750000, 11, 0, 1]])
        more_first = [
            begins(100, [0]), test_call(1), test_call(5, 50, 0, [0]), test_call(5, 50, 0, [0]), test_call(10, 75, 0, [0]),
        ]
        self.assertEqual(told_within(more_first, 11), [[750000, 11, 0, 1, 2]])

    def test_chances_closer_than_a_millionth_are_no_tie(self):
        # One less 1/10^8 against one less 2/10^8.
        calls = [begins(100, [0]), test_call(1, 98), *[test_call(1, 99)] * 4]
        self.assertEqual(told_within(calls, 4), [[999999, 4, 1, 2, 3, 4]])

    def test_a_longer_one_shows_less_than_a_millionth_more(self):
        calls = [begins(100, [0]), *[test_call(1, 99)] * 4, test_call(9, 1)]
        self.assertEqual(
            told_within(calls, 3, 4, 12, 13),
            [[999999, 3, 0, 1, 2], [999999, 4, 0, 1, 2, 3], [999999, 4, 0, 1, 2, 3], [999999, 13, 0, 1, 2, 3, 4]],
        )


class Rounding(unittest.TestCase):
    def test_down(self):
        self.assertEqual(told_within([begins(3, [0]), test_call(1, 1)], 1), [[333333, 1, 0]])
        self.assertEqual(told_within([begins(3, [0]), test_call(1, 2)], 1), [[666666, 1, 0]])

    def test_the_chance_itself_is_rounded_and_not_what_is_left_of_it(self):
        # 5/9; what is left is 4/9, rounded down too.
        self.assertEqual(told_within([begins(3, [0]), *[test_call(1, 1)] * 2], 2), [[555555, 2, 0, 1]])

    def test_once(self):
        # 1/7 + 6/49 + 36/343 = 127/343; each rounded by itself makes 370261.
        self.assertEqual(told_within([begins(7, [0]), *[test_call(1, 1)] * 3], 3), [[370262, 3, 0, 1, 2]])

    def test_never_a_whole_million(self):
        calls = [begins(100, [0]), *[test_call(1, 99)] * 6]
        self.assertEqual(told_within(calls, 6), [[999999, 6, 0, 1, 2, 3, 4, 5]])


class OrderAndWithin(unittest.TestCase):
    def test_within_may_differ_from_the_best_order(self):
        calls = [begins(10, [0]), test_call(8, 2), test_call(4, 5)]
        self.assertEqual(ask(*calls, order(), within(12))[3:], [[2, 1, 0, 8000000], [600000, 12, 0, 1]])


if __name__ == "__main__":
    unittest.main()
