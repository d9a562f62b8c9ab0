"""Whole lines against the plain search through all orders, as the model does it."""

import random
import unittest

from tests.lines import HIGHEST, ask, begins, model_answers, order, pass_test, test_call


def any_needs(source, count, chance):
    return [number for number in range(count) if source.random() < chance]


def any_house(source, chance_of_need):
    whole = source.choice([2, 3, 10, 97, 100])
    settings = [source.choice([0, 1, 5, 20, 10000]) for _ in range(source.randint(1, 4))]
    calls = [begins(whole, settings)]
    for count in range(source.randint(1, 6)):
        calls.append(test_call(
            source.choice([1, 2, 3, 10, 10000]),
            source.choice([0, 1, whole // 2, whole - 1]),
            source.randrange(len(settings)),
            any_needs(source, count, chance_of_need),
        ))
    return calls


def any_call(source):
    """A call that may well be refused."""
    kind = source.randrange(8)
    if kind == 0:
        settings = [source.choice([0, 3, 10000, 10001]) for _ in range(source.choice([0, 1, 2, 3, 4, 5]))]
        return begins(source.choice([1, 2, 3, 100, 101]), settings)
    if kind < 5:
        needs = [source.choice([0, 0, 1, 2, 3, 6]) for _ in range(source.choice([0, 0, 0, 1, 2]))]
        time = source.choice([0, 1, 2, 7, 30, 10000, 10001, HIGHEST])
        return test_call(time, source.choice([0, 1, 1, 2, 99]), source.choice([0, 0, 1, 2]), needs)
    return pass_test(source.choice([0, 1, 2, 3, 4, 5, 6, HIGHEST]))


class AgainstAllOrders(unittest.TestCase):
    def assert_as_model(self, calls):
        self.assertEqual(ask(*calls), model_answers(calls), calls)

    def test_six_tests_without_needs(self):
        source = random.Random(1)
        for _ in range(12):
            calls = [begins(100, [source.randint(0, 50) for _ in range(3)])]
            for _ in range(6):
                calls.append(test_call(source.randint(1, 60), source.randint(0, 99), source.randrange(3)))
            self.assert_as_model(calls + [order()])

    def test_houses_with_needs_and_settings(self):
        source = random.Random(2)
        for round_number in range(120):
            self.assert_as_model(any_house(source, source.choice([0.2, 0.5])) + [order()])

    def test_with_tests_passed_one_by_one(self):
        source = random.Random(3)
        for round_number in range(40):
            calls = any_house(source, 0.4)
            for _ in range(5):
                calls += [pass_test(source.randrange(6)), order()]
            self.assert_as_model(calls)

    def test_many_ties(self):
        source = random.Random(4)
        for round_number in range(60):
            calls = [begins(2, [0, source.randrange(2)])]
            for count in range(5):
                calls.append(test_call(
                    source.randint(1, 2), source.randrange(2), source.randrange(2), any_needs(source, count, 0.2),
                ))
            self.assert_as_model(calls + [order()])

    def test_lines_with_many_refusals(self):
        source = random.Random(5)
        for round_number in range(150):
            calls = [any_call(source) for _ in range(56)]
            for _ in range(4):
                calls.insert(source.randrange(len(calls) + 1), order())
            self.assert_as_model(calls)


if __name__ == "__main__":
    unittest.main()
