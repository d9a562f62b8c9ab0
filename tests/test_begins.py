import unittest

from tests.lines import HIGHEST, ask, begins, order, pass_test, test_call
from testsfirst.orders import answers


class BeginsAnswers(unittest.TestCase):
    def test_whole_list_of_answers(self):
        self.assertEqual(answers([0, 10, 2, 5, 7]), [1, 0])

    def test_whole_at_its_edges(self):
        for whole, told in [(0, -1), (1, -1), (2, 0), (3, 0), (99, 0), (100, 0), (101, -1), (HIGHEST, -1)]:
            with self.subTest(whole=whole):
                self.assertEqual(ask(begins(whole, [0])), [[told]])

    def test_count_of_settings_at_its_edges(self):
        for count, told in [(0, -1), (1, 0), (2, 0), (3, 0), (4, 0), (5, -1), (10, -1)]:
            with self.subTest(count=count):
                self.assertEqual(ask(begins(10, [1] * count)), [[told]])

    def test_time_of_a_setting_at_its_edges(self):
        for time, told in [(0, 0), (1, 0), (9999, 0), (10000, 0), (10001, -1), (HIGHEST, -1)]:
            for place in range(4):
                settings = [3, 3, 3, 3]
                settings[place] = time
                with self.subTest(settings=settings):
                    self.assertEqual(ask(begins(10, settings)), [[told]])

    def test_several_faults_at_once(self):
        self.assertEqual(ask(begins(1, [])), [[-1]])
        self.assertEqual(ask(begins(101, [10001] * 5)), [[-1]])
        self.assertEqual(ask(begins(HIGHEST, [HIGHEST] * 10)), [[-1]])


class BeginsSets(unittest.TestCase):
    def test_whole_is_the_one_told(self):
        self.assertEqual(
            ask(begins(7, [0]), test_call(1, 7), test_call(1, 6), test_call(7), order()),
            [[0], [-1], [0], [1], [2, 0, 1, 2000000]],
        )

    def test_each_setting_has_its_own_time(self):
        self.assertEqual(
            ask(
                begins(2, [10, 200, 3000, 10000]),
                test_call(1, 0, 3), test_call(1, 0, 2), test_call(1, 0, 1), test_call(1, 0, 0),
                pass_test(0), pass_test(1), pass_test(2), pass_test(3),
            ),
            [[0], [0], [1], [2], [3], [10001], [3001], [201], [11]],
        )

    def test_in_the_middle_there_are_no_tests(self):
        self.assertEqual(
            ask(
                test_call(3), test_call(4, 1, 0, [0]), pass_test(0),
                begins(10, [5]), order(), pass_test(0), test_call(2, 9), order(),
            ),
            [[0], [1], [3], [0], [0, 0], [-2], [0], [1, 0, 7000000]],
        )

    def test_in_the_middle_no_test_has_passed(self):
        self.assertEqual(
            ask(test_call(3), pass_test(0), begins(2, [0]), test_call(4), order(), pass_test(0)),
            [[0], [3], [0], [0], [1, 0, 4000000], [4]],
        )

    def test_in_the_middle_no_setting_is_up(self):
        self.assertEqual(
            ask(
                begins(2, [20]), test_call(3), pass_test(0),
                begins(2, [20]), test_call(3), order(), pass_test(0),
            ),
            [[0], [0], [23], [0], [0], [1, 0, 23000000], [23]],
        )

    def test_in_the_middle_six_tests_have_room_again(self):
        calls = [test_call(1)] * 7 + [begins(2, [0])] + [test_call(1)] * 7
        numbered = [[0], [1], [2], [3], [4], [5], [-7]]
        self.assertEqual(ask(*calls), numbered + [[0]] + numbered)

    def test_in_the_middle_settings_may_be_fewer(self):
        self.assertEqual(
            ask(begins(2, [1, 2]), test_call(1, 0, 1), begins(2, [1]), test_call(1, 0, 1), test_call(1)),
            [[0], [0], [0], [-1], [0]],
        )


class AfterARefusal(unittest.TestCase):
    def test_all_is_as_it_was(self):
        before = [begins(10, [5, 50]), test_call(3, 9, 1), test_call(2, 1, 1), pass_test(1)]
        behind = [order(), test_call(1, 9, 1), test_call(1, 10), test_call(1, 0, 2), order(), pass_test(1), pass_test(0)]
        expected = ask(*before, *behind)
        for refused in [
            begins(1, [0]), begins(101, [7]), begins(50, []), begins(50, [1] * 5),
            begins(50, [7, 10001]), begins(HIGHEST, [1, 2, 3]),
        ]:
            with self.subTest(refused=refused):
                told = ask(*before, refused, *behind)
                self.assertEqual(told[len(before)], [-1])
                self.assertEqual(told[:len(before)] + told[len(before) + 1:], expected)


class WithoutBegins(unittest.TestCase):
    def test_whole_is_two(self):
        self.assertEqual(
            ask(test_call(4, 2), test_call(4, 1), test_call(4, 0), order()),
            [[-1], [0], [1], [2, 0, 1, 6000000]],
        )

    def test_there_is_one_setting_that_takes_nothing(self):
        self.assertEqual(
            ask(test_call(4, 0, 1), test_call(4, 0, 0), pass_test(0)),
            [[-1], [0], [4]],
        )

    def test_there_are_no_tests(self):
        self.assertEqual(ask(order()), [[0, 0]])
        self.assertEqual(ask(pass_test(0)), [[-2]])
        self.assertEqual(ask(test_call(1)), [[0]])

    def test_a_refused_begins_leaves_the_beginning(self):
        self.assertEqual(
            ask(begins(101, [5, 5]), test_call(4, 2), test_call(4, 0, 1), test_call(4, 1), pass_test(0)),
            [[-1], [-1], [-1], [0], [4]],
        )


if __name__ == "__main__":
    unittest.main()
