"""Options: knobs with their settings, choices, and the plan of a choice."""

from knobplans.plans import Plan
from knobplans.refusals import BadParameter


# Requirements are those of plans; a widening is a tuple (task, least, greatest, delay).
class Setting:
    def __init__(self, price):
        self.price = price
        self.requirements = []
        self.widenings = []


# A knob is the list of its settings.
class Options:
    def __init__(self):
        self.plan = Plan(1, 1, [], [])
        self.knobs = []


def find_setting(options, knob, setting):
    if not 0 <= knob < len(options.knobs):
        raise BadParameter()
    settings = options.knobs[knob]
    if not 0 <= setting < len(settings):
        raise BadParameter()
    return settings[setting]


def count_full_choices(knobs):
    product = 1
    for settings in knobs:
        product *= len(settings)
    return product


def count_imposed_requirements(knobs):
    total = 0
    for settings in knobs:
        total += sum([len(setting.requirements) for setting in settings])
    return total


def is_choice(options, choice):
    if len(choice) != len(options.knobs):
        return False
    for settings, setting in zip(options.knobs, choice):
        if not -1 <= setting < len(settings):
            return False
    return True


def require_choice(options, choice):
    if not is_choice(options, choice):
        raise BadParameter()


def chosen_settings(options, choice):
    require_choice(options, choice)
    return [settings[setting] for settings, setting in zip(options.knobs, choice) if setting != -1]


def price_of_choice(options, choice):
    return sum([setting.price for setting in chosen_settings(options, choice)])


def plan_of_choice(options, choice):
    plan = options.plan
    tasks = list(plan.tasks)
    requirements = list(plan.requirements)
    for setting in chosen_settings(options, choice):
        requirements.extend(setting.requirements)
        for widening in setting.widenings:
            task = widening[0]
            tasks[task] = widened(tasks[task], widening)
    return Plan(plan.event_count, plan.deadline, tasks, requirements)


def widened(task, widening):
    start, finish, least, greatest, delay = task
    return (start, finish, min(least, widening[1]), max(greatest, widening[2]), max(delay, widening[3]))
