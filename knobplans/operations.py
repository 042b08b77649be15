"""The operations: each gives back its fields, or is refused and changes nothing."""

from knobplans.options import Setting, count_full_choices, count_imposed_requirements, find_setting
from knobplans.options import plan_of_choice, price_of_choice, require_choice
from knobplans.plans import are_durations, cut_rows, is_delay, is_requirement, read_plan
from knobplans.refusals import BadParameter, ChoiceIsPossible
from knobplans.search import Judge, find_conflict, find_flaw, is_possible, search

MOST_KNOBS = 6
MOST_SETTINGS = 5
GREATEST_PRICE = 1000
MOST_FULL_CHOICES = 48
MOST_IMPOSED_REQUIREMENTS = 30
MOST_CONFLICTS = 64


def load_plan(options, event_count, deadline, tasks, requirements):
    options.plan = read_plan(event_count, deadline, tasks, requirements)
    options.knobs = []
    return []


def add_knob(options, prices):
    if not (1 <= len(prices) <= MOST_SETTINGS and all([is_price(price) for price in prices])):
        raise BadParameter()
    knobs = options.knobs + [[Setting(price) for price in prices]]
    if len(knobs) > MOST_KNOBS or count_full_choices(knobs) > MOST_FULL_CHOICES:
        raise BadParameter()
    options.knobs = knobs
    return [len(knobs) - 1]


def impose_requirement(options, knob, setting, requirement):
    imposing = find_setting(options, knob, setting)
    if not is_requirement(options.plan, requirement):
        raise BadParameter()
    if count_imposed_requirements(options.knobs) == MOST_IMPOSED_REQUIREMENTS:
        raise BadParameter()
    imposing.requirements.append(requirement)
    return []


def impose_task(options, knob, setting, widening):
    imposing = find_setting(options, knob, setting)
    if not is_widening(options.plan, widening):
        raise BadParameter()
    others = [other for other in imposing.widenings if other[0] != widening[0]]
    imposing.widenings = others + [widening]
    return []


def is_widening(plan, widening):
    task, least, greatest, delay = widening
    return (0 <= task < len(plan.tasks)
            and are_durations(least, greatest)
            and is_delay(plan, plan.tasks[task][1], delay))


def set_price(options, knob, setting, price):
    priced = find_setting(options, knob, setting)
    if not is_price(price):
        raise BadParameter()
    priced.price = price
    return []


def is_price(number):
    return 0 <= number <= GREATEST_PRICE


def print_plan(options, choice):
    plan = plan_of_choice(options, choice)
    return [plan.event_count, plan.deadline] + counted_rows(plan.tasks) + counted_rows(plan.requirements)


def print_knobs(options):
    fields = [len(options.knobs)]
    for settings in options.knobs:
        fields.append(len(settings))
        for setting in settings:
            fields.append(setting.price)
            fields.extend(counted_rows(setting.requirements))
            fields.extend(counted_rows(setting.widenings))
    return fields


def counted_rows(rows):
    numbers = [len(rows)]
    for row in rows:
        numbers.extend(row)
    return numbers


def tell_price(options, choice):
    return [price_of_choice(options, choice)]


def tell_possible(options, choice):
    return [int(is_possible(Judge(options), choice))]


def tell_conflict(options, choice):
    judge = Judge(options)
    if is_possible(judge, choice):
        raise ChoiceIsPossible()
    return find_conflict(judge, choice)


def find_cheapest(options, choice):
    require_choice(options, choice)
    found, conflicts = search(Judge(options), choice)
    told = [len(conflicts)]
    for conflict in conflicts:
        told.extend(conflict)
    if found is None:
        return [0] + told
    return [1, price_of_choice(options, found)] + found + told


def check_claim(options, choice, claimed, conflict_numbers):
    require_choice(options, choice)
    claimed_choice = read_claimed(options, claimed)
    conflicts = read_conflicts(options, conflict_numbers)
    flaw = find_flaw(Judge(options), choice, claimed_choice, conflicts)
    if flaw:
        return [0] + flaw
    return [1]


# Without knobs no numbers are the empty choice, so that there is no way to claim none.
def read_claimed(options, claimed):
    if options.knobs and not claimed:
        return None
    require_choice(options, claimed)
    return claimed


def read_conflicts(options, numbers):
    if not numbers:
        return []
    # Without knobs there is nothing to cut the numbers by.
    if not options.knobs:
        raise BadParameter()
    conflicts = cut_rows(numbers, len(options.knobs))
    if len(conflicts) > MOST_CONFLICTS:
        raise BadParameter()
    for conflict in conflicts:
        require_choice(options, conflict)
    return conflicts


def tell_extra(options, knob, setting):
    find_setting(options, knob, setting)
    judge = Judge(options)
    open_choice = [-1] * len(options.knobs)
    bound_choice = open_choice[:knob] + [setting] + open_choice[knob + 1:]
    found_bound = search(judge, bound_choice)[0]
    if found_bound is None:
        return [0]
    found = search(judge, open_choice)[0]
    return [1, price_of_choice(options, found_bound) - price_of_choice(options, found)]


def tell_summary(options):
    plan = options.plan
    counts = [plan.event_count, plan.deadline, len(plan.tasks), len(plan.requirements)]
    return counts + [len(options.knobs), count_full_choices(options.knobs)]
