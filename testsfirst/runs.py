"""A run: an order, test by test, with its length and, as exact fractions, its average and its chance."""

from testsfirst.house import needs_met

MILLION = 1000000


# The average is spent / scale, and the chance that no test of the order fails is alive / scale:
# one denominator for both keeps them exact in whole numbers.
class Run:
    def __init__(self, order, up, length, spent, alive, scale):
        self.order = order
        self.up = up
        self.length = length
        self.spent = spent
        self.alive = alive
        self.scale = scale


def empty_run(house):
    return Run([], house.up, 0, 0, 1, 1)


def longer_run(house, run, number):
    test = house.tests[number]
    time = house.time_with_setting(test, run.up)
    # A test's time is spent only if all those before it have passed.
    spent = (run.spent + time * run.alive) * house.whole
    alive = run.alive * (house.whole - test.failures)
    return Run(run.order + [number], test.setting, run.length + time, spent, alive, run.scale * house.whole)


def next_tests(house, run):
    done = house.passed + run.order
    return [
        number for number, test in enumerate(house.tests)
        if number not in done and needs_met(test, done)
    ]


# None if the row is no order.
def run_of_row(house, row):
    run = empty_run(house)
    for number in row:
        if number not in next_tests(house, run):
            return None
        run = longer_run(house, run, number)
    return run


def average_in_millionths(run):
    return run.spent * MILLION // run.scale


def chance_in_millionths(run):
    return (run.scale - run.alive) * MILLION // run.scale
