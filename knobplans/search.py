"""Which choices are possible, conflicts, the search for the cheapest one, and the flaws of a claim."""

from knobplans.derived import is_accepted
from knobplans.options import plan_of_choice, price_of_choice


# Remembers what it has found, as the same parts of choices come up again and again.
# Each operation makes a new one, as the operations between may change what is possible.
class Judge:
    def __init__(self, options):
        self.options = options
        self.verdicts = {}


def is_possible(judge, choice):
    settings = tuple(choice)
    if settings not in judge.verdicts:
        judge.verdicts[settings] = is_accepted(plan_of_choice(judge.options, choice))
    return judge.verdicts[settings]


# Asks for an impossible choice.
def find_conflict(judge, choice):
    conflict = choice
    for knob in range(len(choice) - 1, -1, -1):
        left = conflict[:knob] + [-1] + conflict[knob + 1:]
        if not is_possible(judge, left):
            conflict = left
    return conflict


def extends(choice, part):
    return all([wanted in (-1, setting) for setting, wanted in zip(choice, part)])


def extends_any(choice, parts):
    return any([extends(choice, part) for part in parts])


def full_choices_in_order(options, given):
    choices = [[]]
    for settings, wanted in zip(options.knobs, given):
        longer = []
        for choice in choices:
            for setting in range(len(settings)):
                if wanted in (-1, setting):
                    longer.append(choice + [setting])
        choices = longer
    return sorted(choices, key=lambda full: (price_of_choice(options, full), full))


# Gives back the first possible choice, or None, and the conflicts in the order in which they were found.
def search(judge, given):
    conflicts = []
    for choice in full_choices_in_order(judge.options, given):
        if not extends_any(choice, conflicts):
            if is_possible(judge, choice):
                return choice, conflicts
            conflicts.append(find_conflict(judge, choice))
    return None, conflicts


# Gives back the numbers that tell the first flaw, or none. A claim of no choice has None as claimed.
def find_flaw(judge, given, claimed, conflicts):
    if claimed is not None and not is_solution(judge, given, claimed):
        return [1]
    for index, conflict in enumerate(conflicts):
        if is_possible(judge, conflict):
            return [2, index]
    for choice in full_choices_in_order(judge.options, given):
        if choice == claimed:
            return []
        if not extends_any(choice, conflicts):
            return [3] + choice
    return []


def is_solution(judge, given, choice):
    return -1 not in choice and extends(choice, given) and is_possible(judge, choice)
