"""Writes operations as calls, and cuts the list that is given back into answers."""

from knobplans.desk import answers

NUMBERS = {
    "load_plan": 0, "add_knob": 1, "impose_requirement": 2, "impose_task": 3,
    "set_price": 4, "print_plan": 5, "print_knobs": 6,
}

BIG = 10 ** 12


def write_calls(operations):
    """An operation is a tuple: its name, then its whole numbers and its lists."""
    calls = []
    for name, *parameters in operations:
        calls.append(NUMBERS[name])
        for parameter in parameters:
            if isinstance(parameter, list):
                calls.append(len(parameter))
                calls.extend(parameter)
            else:
                calls.append(parameter)
    return calls


def cut_answers(given):
    cut = []
    at = 0
    while at < len(given):
        end = at + 1 + given[at]
        cut.append(given[at + 1:end])
        at = end
    return cut


def ask(*operations):
    cut = cut_answers(answers(write_calls(operations)))
    assert len(cut) == len(operations), cut
    return cut


def ask_last(*operations):
    return ask(*operations)[-1]


def outcome(preparation, operation):
    """The answer of an operation behind a preparation that has to succeed."""
    *before, last = ask(*preparation, operation)
    assert all(answer[0] == 0 for answer in before), before
    return last


EXAMPLE = [
    ("load_plan", 3, 8, [0, 1, 1, 3, 0], [2, 1, 0, 1, 2, 1]),
    ("add_knob", [0, 5]),
    ("add_knob", [0, 2, 4]),
    ("add_knob", [0, 3]),
    ("impose_task", 0, 0, 0, 1, 6, 0),
    ("impose_task", 1, 0, 0, 1, 3, 2),
    ("impose_task", 1, 1, 0, 1, 3, 1),
    ("impose_requirement", 2, 0, 0, 2, 4),
]
