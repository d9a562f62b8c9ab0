"""Lines of calls for the tests, and a plain model that answers them by searching all orders."""

from fractions import Fraction
from itertools import permutations
from math import floor

from testsfirst.orders import answers

HIGHEST = 4294967295


def begins(whole, settings):
    return [0, whole, len(settings), *settings]


def test_call(time, failures=0, setting=0, needs=()):
    return [1, time, failures, setting, len(needs), *needs]


# unittest and its kin take names that begin with "test" for tests.
test_call.__test__ = False


def pass_test(number):
    return [2, number]


def order():
    return [3]


def price(row):
    return [4, len(row), *row]


def within(time):
    return [5, time]


def open_tests():
    return [6]


def flat(calls):
    return [number for call in calls for number in call]


def split_answers(told, count):
    """The answers call by call; every number must belong to one of `count` answers."""
    split = []
    place = 0
    while place < len(told):
        length = told[place]
        row = told[place + 1:place + 1 + length]
        if length < 1 or len(row) != length:
            raise AssertionError(f"a count does not fit at {place}: {told}")
        split.append(row)
        place += 1 + length
    if len(split) != count:
        raise AssertionError(f"{count} calls, but {len(split)} answers: {told}")
    return split


def ask(*calls):
    return split_answers(answers(flat(calls)), len(calls))


def millionths(fraction):
    return floor(fraction * 1000000)


class Model:
    """A house by the document's words, with fractions and a search through all rows of tests."""

    def __init__(self):
        self.clear(2, [0])

    def clear(self, whole, settings):
        self.whole, self.settings = whole, list(settings)
        self.tests, self.passed, self.up = [], set(), None

    def answer(self, call):
        kind, *numbers = call
        kinds = [self.begins, self.test, self.pass_test, self.order, self.price, self.within, self.open_tests]
        return kinds[kind](numbers)

    def begins(self, numbers):
        whole, count, *settings = numbers
        if whole not in range(2, 101) or count not in range(1, 5):
            return [-1]
        if any(time > 10000 for time in settings):
            return [-1]
        self.clear(whole, settings)
        return [0]

    def test(self, numbers):
        time, failures, setting, _, *needs = numbers
        if time not in range(1, 10001) or failures not in range(self.whole):
            return [-1]
        if setting not in range(len(self.settings)):
            return [-1]
        if len(self.tests) == 6:
            return [-7]
        if any(need >= len(self.tests) for need in needs) or needs != sorted(set(needs)):
            return [-2]
        self.tests.append((time, Fraction(failures, self.whole), setting, set(needs)))
        return [len(self.tests) - 1]

    def pass_test(self, numbers):
        number = numbers[0]
        if number not in range(len(self.tests)):
            return [-2]
        if number in self.passed:
            return [-4]
        time, _, setting, needs = self.tests[number]
        if not needs <= self.passed:
            return [-5]
        took = time + (0 if setting == self.up else self.settings[setting])
        self.passed.add(number)
        self.up = setting
        return [took]

    def left(self):
        return [number for number in range(len(self.tests)) if number not in self.passed]

    def is_order(self, row):
        done = set(self.passed)
        for number in row:
            if number in done or number >= len(self.tests) or not self.tests[number][3] <= done:
                return False
            done.add(number)
        return True

    def elapsed(self, row):
        """How much time has gone when each test of the row is through, if none fails."""
        up, gone, times = self.up, 0, []
        for number in row:
            time, _, setting, _ = self.tests[number]
            gone += time + (0 if setting == up else self.settings[setting])
            up = setting
            times.append(gone)
        return times

    def length(self, row):
        return max(self.elapsed(row), default=0)

    def average(self, row):
        """The mean over where the first failure falls, as the document words it."""
        mean, reached = Fraction(0), Fraction(1)
        for number, gone in zip(row, self.elapsed(row)):
            chance = self.tests[number][1]
            mean += reached * chance * gone
            reached *= 1 - chance
        return mean + reached * self.length(row)

    def chance(self, row):
        """The chances that a test is the first to fail, summed."""
        seen = Fraction(0)
        for number in row:
            seen += (1 - seen) * self.tests[number][1]
        return seen

    def order(self, numbers):
        left = self.left()
        rows = [row for row in permutations(left) if self.is_order(row)]
        best = min(rows, key=lambda row: (self.average(row), row))
        return [len(left), *best, millionths(self.average(best))]

    def price(self, numbers):
        row = numbers[1:]
        if not self.is_order(row):
            return [-5]
        return [millionths(self.average(row)), self.length(row)]

    def within(self, numbers):
        left = self.left()
        rows = [row for count in range(len(left) + 1) for row in permutations(left, count) if self.is_order(row)]
        short = [row for row in rows if self.length(row) <= numbers[0]]
        # Python's own comparison puts a row that's over before one that goes on.
        best = min(short, key=lambda row: (-self.chance(row), self.length(row), row))
        return [millionths(self.chance(best)), self.length(best), *best]

    def open_tests(self, numbers):
        fit = [number for number in self.left() if self.is_order([number])]
        return [len(fit), *fit]


def model_answers(calls):
    model = Model()
    return [model.answer(call) for call in calls]
