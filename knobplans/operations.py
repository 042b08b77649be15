"""The operations: each gives back its fields, or is refused and changes nothing."""

from knobplans.options import Setting, count_full_choices, count_imposed_requirements, find_setting, plan_of_choice
from knobplans.plans import are_durations, is_delay, is_requirement, read_plan
from knobplans.refusals import BadParameter

MOST_KNOBS = 6
MOST_SETTINGS = 5
GREATEST_PRICE = 1000
MOST_FULL_CHOICES = 48
MOST_IMPOSED_REQUIREMENTS = 30


def load_plan(options, event_count, deadline, tasks, requirements):
    options.plan = read_plan(event_count, deadline, tasks, requirements)
    options.knobs = []
    return []


def add_knob(options, prices):
    if not (1 <= len(prices) <= MOST_SETTINGS and all([is_price(price) for price in prices])):
        raise BadParameter()
    knobs = options.knobs + [[Setting(price) for price in prices]]
    if len(knobs) > MOST_KNOBS or count_full_choices(knobs) > MOST_FULL_CHOICES:
        raise BadParameter()
    options.knobs = knobs
    return [len(knobs) - 1]


def impose_requirement(options, knob, setting, requirement):
    imposing = find_setting(options, knob, setting)
    if not is_requirement(options.plan, requirement):
        raise BadParameter()
    if count_imposed_requirements(options.knobs) == MOST_IMPOSED_REQUIREMENTS:
        raise BadParameter()
    imposing.requirements.append(requirement)
    return []


def impose_task(options, knob, setting, widening):
    imposing = find_setting(options, knob, setting)
    if not is_widening(options.plan, widening):
        raise BadParameter()
    others = [other for other in imposing.widenings if other[0] != widening[0]]
    imposing.widenings = others + [widening]
    return []


def is_widening(plan, widening):
    task, least, greatest, delay = widening
    return (0 <= task < len(plan.tasks)
            and are_durations(least, greatest)
            and is_delay(plan, plan.tasks[task][1], delay))


def set_price(options, knob, setting, price):
    priced = find_setting(options, knob, setting)
    if not is_price(price):
        raise BadParameter()
    priced.price = price
    return []


def is_price(number):
    return 0 <= number <= GREATEST_PRICE


def print_plan(options, choice):
    plan = plan_of_choice(options, choice)
    return [plan.event_count, plan.deadline] + counted_rows(plan.tasks) + counted_rows(plan.requirements)


def print_knobs(options):
    fields = [len(options.knobs)]
    for settings in options.knobs:
        fields.append(len(settings))
        for setting in settings:
            fields.append(setting.price)
            fields.extend(counted_rows(setting.requirements))
            fields.extend(counted_rows(setting.widenings))
    return fields


def counted_rows(rows):
    numbers = [len(rows)]
    for row in rows:
        numbers.extend(row)
    return numbers
