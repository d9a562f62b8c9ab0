"""Whole lines against the plain search through all orders, as the model does it."""

import random
import unittest
from itertools import product

from tests.lines import (
    HIGHEST, ask, begins, model_answers, open_tests, order, pass_test, price, test_call, within,
)


def any_needs(source, count, chance):
    return [number for number in range(count) if source.random() < chance]


def any_house(source, chance_of_need):
    whole = source.choice([2, 3, 10, 97, 100])
    settings = [source.choice([0, 1, 5, 20, 10000]) for _ in range(source.randint(1, 4))]
    calls = [begins(whole, settings)]
    for count in range(source.randint(1, 6)):
        calls.append(test_call(
            source.choice([1, 2, 3, 10, 10000]),
            source.choice([0, 1, whole // 2, whole - 1]),
            source.randrange(len(settings)),
            any_needs(source, count, chance_of_need),
        ))
    return calls


def any_call(source):
    """A call that may well be refused."""
    kind = source.randrange(8)
    if kind == 0:
        settings = [source.choice([0, 3, 10000, 10001]) for _ in range(source.choice([0, 1, 2, 3, 4, 5]))]
        return begins(source.choice([1, 2, 3, 100, 101]), settings)
    if kind < 5:
        needs = [source.choice([0, 0, 1, 2, 3, 6]) for _ in range(source.choice([0, 0, 0, 1, 2]))]
        time = source.choice([0, 1, 2, 7, 30, 10000, 10001, HIGHEST])
        return test_call(time, source.choice([0, 1, 1, 2, 99]), source.choice([0, 0, 1, 2]), needs)
    return pass_test(source.choice([0, 1, 2, 3, 4, 5, 6, HIGHEST]))


def any_row(source):
    """A row of tests, more often an order than not where there are few needs."""
    row = source.sample(range(6), source.randint(0, 6))
    if source.random() < 0.5:
        row = sorted(row)
    if source.random() < 0.2:
        row.insert(source.randint(0, len(row)), source.choice([0, 1, 5, 6, 10, HIGHEST]))
    return row


def any_time(source):
    return source.choice([0, 1, 2, 3, 5, 8, 13, 25, 40, 10000, 10020, 30000, HIGHEST])


def any_question(source):
    """A call that has no part in the ten calls of order and within."""
    return source.choice([price(any_row(source)), open_tests()])


def any_search(source):
    return source.choice([order(), within(any_time(source))])


class AgainstAllOrders(unittest.TestCase):
    def assert_as_model(self, calls):
        self.assertEqual(ask(*calls), model_answers(calls), calls)

    def test_six_tests_without_needs(self):
        source = random.Random(1)
        for _ in range(12):
            calls = [begins(100, [source.randint(0, 50) for _ in range(3)])]
            for _ in range(6):
                calls.append(test_call(source.randint(1, 60), source.randint(0, 99), source.randrange(3)))
            self.assert_as_model(calls + [order()])

    def test_houses_with_needs_and_settings(self):
        source = random.Random(2)
        for round_number in range(120):
            self.assert_as_model(any_house(source, source.choice([0.2, 0.5])) + [order()])

    def test_with_tests_passed_one_by_one(self):
        source = random.Random(3)
        for round_number in range(40):
            calls = any_house(source, 0.4)
            for _ in range(5):
                calls += [pass_test(source.randrange(6)), order()]
            self.assert_as_model(calls)

    def test_many_ties(self):
        source = random.Random(4)
        for round_number in range(60):
            calls = [begins(2, [0, source.randrange(2)])]
            for count in range(5):
                calls.append(test_call(
                    source.randint(1, 2), source.randrange(2), source.randrange(2), any_needs(source, count, 0.2),
                ))
            self.assert_as_model(calls + [order()])

    def test_lines_with_many_refusals(self):
        source = random.Random(5)
        for round_number in range(150):
            calls = [any_call(source) for _ in range(56)]
            for _ in range(4):
                calls.insert(source.randrange(len(calls) + 1), order())
            self.assert_as_model(calls)

    def test_within_of_six_tests_without_needs(self):
        source = random.Random(6)
        for round_number in range(12):
            calls = [begins(100, [source.randint(0, 30) for _ in range(3)])]
            for _ in range(6):
                calls.append(test_call(source.randint(1, 40), source.randint(0, 99), source.randrange(3)))
            self.assert_as_model(calls + [within(source.randint(0, 200))])

    def test_within_of_houses_with_needs_and_settings(self):
        source = random.Random(7)
        for round_number in range(100):
            times = [any_time(source) for _ in range(3)]
            self.assert_as_model(any_house(source, source.choice([0.2, 0.5])) + [within(time) for time in times])

    def test_within_every_time_with_many_ties(self):
        source = random.Random(8)
        for round_number in range(40):
            calls = [begins(4, [0, source.randrange(2)])]
            for count in range(4):
                calls.append(test_call(
                    source.randint(1, 2), source.choice([0, 2, 2, 3]), source.randrange(2),
                    any_needs(source, count, 0.2),
                ))
            self.assert_as_model(calls + [within(time) for time in range(10)])

    def test_price_of_every_row(self):
        source = random.Random(9)
        rows = [row for count in range(5) for row in product(range(4), repeat=count)]
        for round_number in range(6):
            calls = any_house(source, 0.3)[:5] + [pass_test(source.randrange(4))]
            room = 60 - len(calls)
            for place in range(0, len(rows), room):
                self.assert_as_model(calls + [price(row) for row in rows[place:place + room]])

    def test_price_of_what_order_and_within_tell(self):
        source = random.Random(10)
        for round_number in range(60):
            calls = any_house(source, 0.3)
            best, reached = ask(*calls, order(), within(any_time(source)))[-2:]
            whole, part = ask(*calls, price(best[1:-1]), price(reached[2:]))[-2:]
            self.assertEqual((whole[0], part[1]), (best[-1], reached[1]), calls)

    def test_lines_of_all_seven_calls(self):
        source = random.Random(11)
        for round_number in range(150):
            calls = any_house(source, 0.3)
            searches = 10
            while len(calls) < 60:
                kind = source.randrange(10)
                if kind == 0 and searches:
                    searches -= 1
                    calls.append(any_search(source))
                elif kind < 6:
                    calls.append(any_question(source))
                else:
                    calls.append(any_call(source) if kind < 7 else pass_test(source.randrange(7)))
            self.assert_as_model(calls)

    def test_lines_of_all_seven_calls_from_the_beginning(self):
        source = random.Random(12)
        for round_number in range(150):
            calls = [source.choice([any_call, any_call, any_question])(source) for _ in range(source.randint(1, 50))]
            for _ in range(10):
                calls.insert(source.randrange(len(calls) + 1), any_search(source))
            self.assert_as_model(calls)


if __name__ == "__main__":
    unittest.main()
