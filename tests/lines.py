"""Lines of calls for the tests, and a plain model that answers them by searching all orders."""

from fractions import Fraction
from itertools import permutations
from math import floor

from testsfirst.orders import answers

HIGHEST = 4294967295


def begins(whole, settings):
    return [0, whole, len(settings), *settings]


def test_call(time, failures=0, setting=0, needs=()):
    return [1, time, failures, setting, len(needs), *needs]


# unittest and its kin take names that begin with "test" for tests.
test_call.__test__ = False


def pass_test(number):
    return [2, number]


def order():
    return [3]


def flat(calls):
    return [number for call in calls for number in call]


def split_answers(told, count):
    """The answers call by call; every number must belong to one of `count` answers."""
    split = []
    place = 0
    while place < len(told):
        length = told[place]
        row = told[place + 1:place + 1 + length]
        if length < 1 or len(row) != length:
            raise AssertionError(f"a count does not fit at {place}: {told}")
        split.append(row)
        place += 1 + length
    if len(split) != count:
        raise AssertionError(f"{count} calls, but {len(split)} answers: {told}")
    return split


def ask(*calls):
    return split_answers(answers(flat(calls)), len(calls))


class Model:
    """A house by the document's words, with fractions and a search through all rows of tests."""

    def __init__(self):
        self.clear(2, [0])

    def clear(self, whole, settings):
        self.whole, self.settings = whole, list(settings)
        self.tests, self.passed, self.up = [], set(), None

    def answer(self, call):
        kind, *numbers = call
        return [self.begins, self.test, self.pass_test, self.order][kind](numbers)

    def begins(self, numbers):
        whole, count, *settings = numbers
        if whole not in range(2, 101) or count not in range(1, 5):
            return [-1]
        if any(time > 10000 for time in settings):
            return [-1]
        self.clear(whole, settings)
        return [0]

    def test(self, numbers):
        time, failures, setting, _, *needs = numbers
        if time not in range(1, 10001) or failures not in range(self.whole):
            return [-1]
        if setting not in range(len(self.settings)):
            return [-1]
        if len(self.tests) == 6:
            return [-7]
        if any(need >= len(self.tests) for need in needs) or needs != sorted(set(needs)):
            return [-2]
        self.tests.append((time, Fraction(failures, self.whole), setting, set(needs)))
        return [len(self.tests) - 1]

    def pass_test(self, numbers):
        number = numbers[0]
        if number not in range(len(self.tests)):
            return [-2]
        if number in self.passed:
            return [-4]
        time, _, setting, needs = self.tests[number]
        if not needs <= self.passed:
            return [-5]
        took = time + (0 if setting == self.up else self.settings[setting])
        self.passed.add(number)
        self.up = setting
        return [took]

    def is_order(self, row):
        done = set(self.passed)
        for number in row:
            if not self.tests[number][3] <= done:
                return False
            done.add(number)
        return True

    def average(self, row):
        """The mean over where the first failure falls, as the document words it."""
        mean, reached, elapsed, up = Fraction(0), Fraction(1), 0, self.up
        for number in row:
            time, chance, setting, _ = self.tests[number]
            elapsed += time + (0 if setting == up else self.settings[setting])
            up = setting
            mean += reached * chance * elapsed
            reached *= 1 - chance
        return mean + reached * elapsed

    def order(self, numbers):
        left = [number for number in range(len(self.tests)) if number not in self.passed]
        rows = [row for row in permutations(left) if self.is_order(row)]
        best = min(rows, key=lambda row: (self.average(row), row))
        return [len(left), *best, floor(self.average(best) * 1000000)]


def model_answers(calls):
    model = Model()
    return [model.answer(call) for call in calls]
