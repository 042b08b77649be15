"""Plans: events, tasks and requirements, and which plans can be loaded."""

from knobplans.refusals import BadParameter

MOST_EVENTS = 10
GREATEST_DEADLINE = 200
MOST_TASKS = 4
MOST_REQUIREMENTS = 30
LONGEST_DURATION = 1000
GREATEST_BOUND = 1000

TASK_WIDTH = 5
REQUIREMENT_WIDTH = 3


# A task is a tuple (start, finish, least, greatest, delay),
# a requirement a tuple (source, target, most).
class Plan:
    def __init__(self, event_count, deadline, tasks, requirements):
        self.event_count = event_count
        self.deadline = deadline
        self.tasks = tasks
        self.requirements = requirements


def read_plan(event_count, deadline, task_numbers, requirement_numbers):
    tasks = cut_rows(task_numbers, TASK_WIDTH)
    requirements = cut_rows(requirement_numbers, REQUIREMENT_WIDTH)
    plan = Plan(event_count, deadline, tasks, requirements)
    if not is_loadable(plan):
        raise BadParameter()
    return plan


def cut_rows(numbers, width):
    if len(numbers) % width != 0:
        raise BadParameter()
    return [tuple(numbers[at:at + width]) for at in range(0, len(numbers), width)]


def is_loadable(plan):
    return (1 <= plan.event_count <= MOST_EVENTS
            and 1 <= plan.deadline <= GREATEST_DEADLINE
            and len(plan.tasks) <= MOST_TASKS
            and len(plan.requirements) <= MOST_REQUIREMENTS
            and all([is_task(plan, task) for task in plan.tasks])
            and finishes_differ(plan.tasks)
            and not has_task_ring(plan.tasks)
            and all([is_requirement(plan, requirement) for requirement in plan.requirements]))


def is_task(plan, task):
    start, finish, least, greatest, delay = task
    return (is_event(plan, start)
            and is_event(plan, finish)
            and finish != start
            and finish != 0
            and are_durations(least, greatest)
            and is_delay(plan, finish, delay))


def is_requirement(plan, requirement):
    source, target, most = requirement
    return (is_event(plan, source)
            and is_event(plan, target)
            and -GREATEST_BOUND <= most <= GREATEST_BOUND)


def is_event(plan, number):
    return 0 <= number < plan.event_count


def are_durations(least, greatest):
    return 1 <= least <= greatest <= LONGEST_DURATION


def is_delay(plan, finish, delay):
    # A start has to be seen at once, so a finish that is also a start takes no delay.
    if finish in [task[0] for task in plan.tasks]:
        return delay == 0
    return 0 <= delay <= plan.deadline + 1


def finishes_differ(tasks):
    return len(set([task[1] for task in tasks])) == len(tasks)


# Asks for different finishes: then there is one way back from each finish.
def has_task_ring(tasks):
    start_by_finish = {}
    for task in tasks:
        start_by_finish[task[1]] = task[0]
    for task in tasks:
        event = task[1]
        for step in range(len(tasks)):
            event = start_by_finish.get(event, 0)
        # As many steps back as there are tasks lead out of them all, but not out of a ring.
        if event in start_by_finish:
            return True
    return False
