"""The desk: takes a list of calls and gives back the list of their answers."""

from knobplans.operations import add_knob, check_claim, find_cheapest, impose_requirement, impose_task, load_plan
from knobplans.operations import print_knobs, print_plan, set_price, tell_conflict, tell_extra, tell_possible
from knobplans.operations import tell_price, tell_summary
from knobplans.options import Options
from knobplans.refusals import BadParameter, ChoiceIsPossible

# For each call by its number: how many whole numbers it has, and how many rows behind them.
SHAPES = (
    (2, 2), (0, 1), (5, 0), (6, 0), (3, 0), (0, 1), (0, 0),
    (0, 1), (0, 1), (0, 1), (0, 1), (0, 3), (2, 0), (0, 0),
)


def answers(calls):
    options = Options()
    answered = []
    at = 0
    while at < len(calls):
        number = calls[at]
        numbers, rows, at = read_call(calls, at)
        answer = answer_call(options, number, numbers, rows)
        answered.append(len(answer))
        answered.extend(answer)
    return answered


# Gives back the call's whole numbers, its rows, and where the next call begins.
def read_call(calls, at):
    number_count, row_count = SHAPES[calls[at]]
    begin = at + 1
    end = begin + number_count
    numbers = calls[begin:end]
    rows = []
    for row in range(row_count):
        begin = end + 1
        end = begin + calls[end]
        rows.append(calls[begin:end])
    return numbers, rows, end


def answer_call(options, number, numbers, rows):
    try:
        fields = run_call(options, number, numbers, rows)
    except BadParameter:
        return [-1]
    except ChoiceIsPossible:
        return [-2]
    return [0] + fields


def run_call(options, number, numbers, rows):
    if number <= 4:
        return change(options, number, numbers, rows)
    return tell(options, number, numbers, rows)


def change(options, number, numbers, rows):
    if number == 0:
        return load_plan(options, numbers[0], numbers[1], rows[0], rows[1])
    if number == 1:
        return add_knob(options, rows[0])
    if number == 2:
        return impose_requirement(options, numbers[0], numbers[1], tuple(numbers[2:]))
    if number == 3:
        return impose_task(options, numbers[0], numbers[1], tuple(numbers[2:]))
    return set_price(options, numbers[0], numbers[1], numbers[2])


def tell(options, number, numbers, rows):
    if number == 5:
        return print_plan(options, rows[0])
    if number == 6:
        return print_knobs(options)
    if number == 7:
        return tell_price(options, rows[0])
    if number == 8:
        return tell_possible(options, rows[0])
    if number == 9:
        return tell_conflict(options, rows[0])
    if number == 10:
        return find_cheapest(options, rows[0])
    if number == 11:
        return check_claim(options, rows[0], rows[1], rows[2])
    if number == 12:
        return tell_extra(options, numbers[0], numbers[1])
    return tell_summary(options)
