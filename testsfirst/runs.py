"""A run: an order, test by test, with what it takes on the average as an exact fraction."""

from testsfirst.house import needs_met

MILLION = 1000000


# The average is spent / scale, and the chance that no test of the order fails is alive / scale:
# one denominator for both keeps them exact in whole numbers.
class Run:
    def __init__(self, order, up, spent, alive, scale):
        self.order = order
        self.up = up
        self.spent = spent
        self.alive = alive
        self.scale = scale


def empty_run(house):
    return Run([], house.up, 0, 1, 1)


def longer_run(house, run, number):
    test = house.tests[number]
    time = house.time_with_setting(test, run.up)
    # A test's time is spent only if all those before it have passed.
    spent = (run.spent + time * run.alive) * house.whole
    alive = run.alive * (house.whole - test.failures)
    return Run(run.order + [number], test.setting, spent, alive, run.scale * house.whole)


def next_tests(house, run):
    done = house.passed + run.order
    return [
        number for number, test in enumerate(house.tests)
        if number not in done and needs_met(test, done)
    ]


def average_in_millionths(run):
    return run.spent * MILLION // run.scale
