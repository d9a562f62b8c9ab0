"""The search through all orders: for the best one, and for the one within a time."""

from testsfirst.runs import empty_run, longer_run, next_tests


# The first order comes first: right behind each run are those that go on from it, by rising tests.
def all_runs(house):
    runs = []
    waiting = [empty_run(house)]
    while len(waiting) > 0:
        run = waiting.pop()
        runs.append(run)
        for number in reversed(next_tests(house, run)):
            waiting.append(longer_run(house, run, number))
    return runs


def whole_runs(house):
    left = len(house.tests) - len(house.passed)
    return [run for run in all_runs(house) if len(run.order) == left]


# All whole runs have the same scale, so comparing what is spent compares the exact averages.
def best_run(house):
    runs = whole_runs(house)
    best = runs[0]
    for run in runs:
        if run.spent < best.spent:
            best = run
    return best


# Runs with more tests have a greater scale, so each chance is brought to the other's scale.
def shows_more(run, other):
    alive = run.alive * other.scale
    other_alive = other.alive * run.scale
    if alive == other_alive:
        return run.length < other.length
    return alive < other_alive


def run_within(house, time):
    best = empty_run(house)
    for run in all_runs(house):
        if run.length <= time and shows_more(run, best):
            best = run
    return best
