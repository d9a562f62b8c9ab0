"""The search for the best order, through all whole orders."""

from testsfirst.runs import empty_run, longer_run, next_tests


def runs_one_longer(house, runs):
    longer = []
    for run in runs:
        for number in next_tests(house, run):
            longer.append(longer_run(house, run, number))
    return longer


# The runs come out with the first order first, since each is made longer by rising tests.
def whole_runs(house):
    runs = [empty_run(house)]
    for step in range(len(house.tests) - len(house.passed)):
        runs = runs_one_longer(house, runs)
    return runs


# All whole runs have the same scale, so comparing what is spent compares the exact averages.
def best_run(house):
    runs = whole_runs(house)
    best = runs[0]
    for run in runs:
        if run.spent < best.spent:
            best = run
    return best
