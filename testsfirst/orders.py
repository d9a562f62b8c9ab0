"""The calls on one house, and what they answer."""

from testsfirst.house import House, NO_ORDER
from testsfirst.reader import Reader
from testsfirst.runs import average_in_millionths, chance_in_millionths, empty_run, next_tests, run_of_row
from testsfirst.search import best_run, run_within

BEGINS = 0
TEST = 1
PASS_TEST = 2
ORDER = 3
PRICE = 4
WITHIN = 5
OPEN_TESTS = 6


class UnknownCall(ValueError):
    pass


def answer_begins(house, reader):
    whole = reader.read_number()
    settings = reader.read_row()
    return [house.begins(whole, settings)]


def answer_test(house, reader):
    time = reader.read_number()
    failures = reader.read_number()
    setting = reader.read_number()
    needs = reader.read_row()
    return [house.add_test(time, failures, setting, needs)]


def answer_pass_test(house, reader):
    return [house.pass_test(reader.read_number())]


def answer_order(house):
    best = best_run(house)
    return [len(best.order)] + best.order + [average_in_millionths(best)]


def answer_price(house, reader):
    run = run_of_row(house, reader.read_row())
    if run is None:
        return [NO_ORDER]
    return [average_in_millionths(run), run.length]


def answer_within(house, reader):
    run = run_within(house, reader.read_number())
    return [chance_in_millionths(run), run.length] + run.order


def answer_open_tests(house):
    numbers = next_tests(house, empty_run(house))
    return [len(numbers)] + numbers


def answer_call(house, reader):
    call = reader.read_number()
    if call == BEGINS:
        return answer_begins(house, reader)
    if call == TEST:
        return answer_test(house, reader)
    if call == PASS_TEST:
        return answer_pass_test(house, reader)
    if call == ORDER:
        return answer_order(house)
    if call == PRICE:
        return answer_price(house, reader)
    if call == WITHIN:
        return answer_within(house, reader)
    if call == OPEN_TESTS:
        return answer_open_tests(house)
    raise UnknownCall(call)


def answers(calls):
    house = House()
    reader = Reader(calls)
    told = []
    while not reader.at_end():
        answer = answer_call(house, reader)
        told.append(len(answer))
        told.extend(answer)
    return told
