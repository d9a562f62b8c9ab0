import unittest

from tests.lines import HIGHEST, ask, begins, order, pass_test, test_call
from testsfirst.orders import answers

SIX = [test_call(1)] * 6
SIX_NUMBERED = [[number] for number in range(6)]


class TestAnswers(unittest.TestCase):
    def test_whole_list_of_answers(self):
        self.assertEqual(
            answers([1, 5, 1, 0, 0, 1, 6, 0, 0, 1, 0, 1, 7, 1, 0, 2, 0, 1]),
            [1, 0, 1, 1, 1, 2],
        )

    def test_numbers_rise_from_nought_to_the_sixth(self):
        self.assertEqual(ask(*SIX), SIX_NUMBERED)

    def test_time_at_its_edges(self):
        for time, told in [(0, -1), (1, 0), (2, 0), (9999, 0), (10000, 0), (10001, -1), (HIGHEST, -1)]:
            with self.subTest(time=time):
                self.assertEqual(ask(test_call(time)), [[told]])

    def test_failures_at_their_edges(self):
        for whole in [2, 3, 50, 100]:
            for failures, told in [(0, 0), (1, 0), (whole - 1, 0), (whole, -1), (whole + 1, -1), (HIGHEST, -1)]:
                with self.subTest(whole=whole, failures=failures):
                    self.assertEqual(ask(begins(whole, [0]), test_call(1, failures)), [[0], [told]])

    def test_setting_at_its_edges(self):
        for count in [1, 2, 3, 4]:
            for setting, told in [(0, 0), (count - 1, 0), (count, -1), (count + 1, -1), (HIGHEST, -1)]:
                with self.subTest(count=count, setting=setting):
                    self.assertEqual(ask(begins(2, [9] * count), test_call(1, 0, setting)), [[0], [told]])


class Needs(unittest.TestCase):
    def told_behind_five(self, needs):
        return ask(*SIX[:5], test_call(1, 0, 0, needs))[5]

    def test_that_are_there_and_rising(self):
        for needs in [[], [0], [4], [0, 1], [0, 4], [1, 3], [0, 1, 2, 3, 4]]:
            with self.subTest(needs=needs):
                self.assertEqual(self.told_behind_five(needs), [5])

    def test_not_rising(self):
        for needs in [[1, 0], [4, 0], [0, 2, 1], [3, 4, 0], [4, 3, 2, 1, 0]]:
            with self.subTest(needs=needs):
                self.assertEqual(self.told_behind_five(needs), [-2])

    def test_twice_the_same(self):
        for needs in [[0, 0], [4, 4], [0, 1, 1], [2, 2, 3], [0] * 10]:
            with self.subTest(needs=needs):
                self.assertEqual(self.told_behind_five(needs), [-2])

    def test_not_there(self):
        for needs in [[5], [6], [HIGHEST], [0, 5], [0, HIGHEST], [5, 6], [0, 1, 2, 3, 4, 5, 6, 7, 8, 9]]:
            with self.subTest(needs=needs):
                self.assertEqual(self.told_behind_five(needs), [-2])

    def test_first_test_has_nothing_to_need(self):
        self.assertEqual(ask(test_call(1, 0, 0, [0])), [[-2]])

    def test_not_there_and_not_rising(self):
        self.assertEqual(self.told_behind_five([9, 0]), [-2])

    def test_that_have_passed_already(self):
        self.assertEqual(
            ask(test_call(1), pass_test(0), test_call(2, 0, 0, [0]), order(), pass_test(1)),
            [[0], [1], [1], [1, 1, 2000000], [2]],
        )


class TooMany(unittest.TestCase):
    def test_the_seventh(self):
        self.assertEqual(ask(*SIX, test_call(1), test_call(9, 1)), SIX_NUMBERED + [[-7], [-7]])

    def test_passed_ones_count(self):
        told = ask(*SIX, *[pass_test(number) for number in range(6)], test_call(1))
        self.assertEqual(told[-1], [-7])

    def test_refused_ones_do_not_count(self):
        self.assertEqual(ask(test_call(0), test_call(1, 0, 0, [3]), *SIX), [[-1], [-2]] + SIX_NUMBERED)


class SeveralRefusals(unittest.TestCase):
    OUT_OF_RANGE = [(0, 0, 0), (10001, 0, 0), (1, 2, 0), (1, 0, 1)]

    def test_out_of_range_comes_before_too_many(self):
        for numbers in self.OUT_OF_RANGE:
            with self.subTest(numbers=numbers):
                self.assertEqual(ask(*SIX, test_call(*numbers))[6], [-1])

    def test_out_of_range_comes_before_needs(self):
        for numbers in self.OUT_OF_RANGE:
            for needs in [[0], [1, 0], [HIGHEST]]:
                with self.subTest(numbers=numbers, needs=needs):
                    self.assertEqual(ask(test_call(*numbers, needs)), [[-1]])

    def test_too_many_comes_before_needs(self):
        for needs in [[6], [1, 0], [2, 2], [HIGHEST]]:
            with self.subTest(needs=needs):
                self.assertEqual(ask(*SIX, test_call(1, 0, 0, needs))[6], [-7])

    def test_all_three(self):
        self.assertEqual(ask(*SIX, test_call(0, 0, 0, [7, 7]))[6], [-1])
        self.assertEqual(ask(*SIX, test_call(HIGHEST, HIGHEST, HIGHEST, [HIGHEST] * 10))[6], [-1])


class AfterARefusal(unittest.TestCase):
    BEFORE = [begins(10, [5, 50]), test_call(3, 9, 1), test_call(2, 1, 0), pass_test(1)]
    BEHIND = [order(), pass_test(2), test_call(1, 3, 1, [0]), order(), pass_test(0), order()]

    def assert_leaves_all(self, before, refused, told_refusal, behind):
        told = ask(*before, refused, *behind)
        self.assertEqual(told[len(before)], [told_refusal])
        self.assertEqual(told[:len(before)] + told[len(before) + 1:], ask(*before, *behind))

    def test_out_of_range(self):
        for numbers in [(0, 0, 0), (10001, 0, 0), (1, 10, 0), (1, 0, 2), (HIGHEST, HIGHEST, HIGHEST)]:
            with self.subTest(numbers=numbers):
                self.assert_leaves_all(self.BEFORE, test_call(*numbers), -1, self.BEHIND)

    def test_needs(self):
        for needs in [[2], [1, 0], [0, 0], [0, HIGHEST]]:
            with self.subTest(needs=needs):
                self.assert_leaves_all(self.BEFORE, test_call(1, 0, 0, needs), -2, self.BEHIND)

    def test_too_many(self):
        before = [begins(10, [5, 50])] + [test_call(3, 2, 1)] * 6 + [pass_test(3)]
        self.assert_leaves_all(before, test_call(1), -7, [order(), pass_test(6), pass_test(0), order()])


if __name__ == "__main__":
    unittest.main()
