"""A house: its whole, its settings, its tests, and the setting that is up."""

OUT_OF_RANGE = -1
NOT_THERE = -2
PASSED_ALREADY = -4
NEEDS_NOT_PASSED = -5
NO_ORDER = -5
TOO_MANY_TESTS = -7

LEAST_WHOLE = 2
MOST_WHOLE = 100
MOST_SETTINGS = 4
MOST_TESTS = 6
LONGEST_TIME = 10000

# Settings are numbered from 0, so this is none of them.
NO_SETTING = -1


def settings_fit(settings):
    if not 1 <= len(settings) <= MOST_SETTINGS:
        return False
    return all([0 <= time <= LONGEST_TIME for time in settings])


def needs_fit(needs, test_count):
    lowest = 0
    for number in needs:
        if not lowest <= number < test_count:
            return False
        lowest = number + 1
    return True


def needs_met(test, done):
    return all([number in done for number in test.needs])


class Test:
    def __init__(self, time, failures, setting, needs):
        self.time = time
        self.failures = failures
        self.setting = setting
        self.needs = needs


class House:
    def __init__(self):
        self.whole = LEAST_WHOLE
        self.settings = [0]
        self.tests = []
        self.passed = []
        self.up = NO_SETTING

    def begins(self, whole, settings):
        if not LEAST_WHOLE <= whole <= MOST_WHOLE or not settings_fit(settings):
            return OUT_OF_RANGE
        self.whole = whole
        self.settings = list(settings)
        self.tests = []
        self.passed = []
        self.up = NO_SETTING
        return 0

    def add_test(self, time, failures, setting, needs):
        if not 1 <= time <= LONGEST_TIME or failures >= self.whole or setting >= len(self.settings):
            return OUT_OF_RANGE
        if len(self.tests) >= MOST_TESTS:
            return TOO_MANY_TESTS
        if not needs_fit(needs, len(self.tests)):
            return NOT_THERE
        self.tests.append(Test(time, failures, setting, list(needs)))
        return len(self.tests) - 1

    def pass_test(self, number):
        if number >= len(self.tests):
            return NOT_THERE
        if number in self.passed:
            return PASSED_ALREADY
        test = self.tests[number]
        if not needs_met(test, self.passed):
            return NEEDS_NOT_PASSED
        took = self.time_with_setting(test, self.up)
        self.passed.append(number)
        self.up = test.setting
        return took

    def time_with_setting(self, test, up):
        if test.setting == up:
            return test.time
        return test.time + self.settings[test.setting]
