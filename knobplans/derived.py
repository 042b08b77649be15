"""Derived requirements: the closed table of a plan, and whether the plan is accepted."""


# A row for each event i: the entries w(i, j) of all events j, and behind them u(k, i) of all tasks k.
# With a task as one more column, conditions 2 and 3 say of the entries u what they say of the entries w.
class Table:
    def __init__(self, plan):
        self.event_count = plan.event_count
        self.column_count = plan.event_count + len(plan.tasks)
        self.rows = [first_row(plan, event) for event in range(plan.event_count)]
        self.is_tightened = False
        self.has_ring = False


# The deadline bounds the entries u, too: u(k, i) <= w(i, c) - y by conditions 1 and 2.
def first_row(plan, event):
    row = [plan.deadline] * (plan.event_count + len(plan.tasks))
    row[0] = 0
    row[event] = 0
    return row


def is_accepted(plan):
    table = Table(plan)
    for source, target, most in plan.requirements:
        tighten(table, source, target, most)
    for number, task in enumerate(plan.tasks):
        bind_durations(table, number, task)
    table.is_tightened = True
    while table.is_tightened and not table.has_ring:
        table.is_tightened = False
        for number, task in enumerate(plan.tasks):
            draw_to_start(table, number, task)
            wait_at_least(table, number, task)
        # Looked for in each round: the entries of a plan with a ring might never come to an end.
        if has_ring_of_waits(table, plan.tasks):
            table.has_ring = True
    return not table.has_ring


# The table keeps to condition 2 before and afterwards, unless there is a ring: then no entry matters any more.
def tighten(table, source, column, most):
    rows = table.rows
    if most >= rows[source][column]:
        return
    if column < table.event_count and rows[column][source] + most < 0:
        table.has_ring = True
        return
    table.is_tightened = True
    for event in range(table.event_count):
        row = rows[event]
        through = row[source] + most
        # Where this is no shorter way to the column, it is none to what lies behind the column.
        if through < row[column]:
            if column < table.event_count:
                rows[event] = shortened(row, through, rows[column])
            else:
                row[column] = through


def shortened(row, through, onward):
    return [old if old <= through + step else through + step for old, step in zip(row, onward)]


# Condition 1 for a task.
def bind_durations(table, number, task):
    start, finish, least, greatest, delay = task
    tighten(table, start, finish, greatest)
    tighten(table, finish, start, -least)
    tighten(table, finish, table.event_count + number, -greatest)


# Condition 3: what has to happen before the finish can be seen is bound by the start.
def draw_to_start(table, number, task):
    start, finish, least, greatest, delay = task
    own_column = table.event_count + number
    for column in range(table.column_count):
        if column != finish and column != own_column:
            most = table.rows[finish][column]
            if most < delay:
                tighten(table, start, column, least + most)


# Condition 4: no finish is seen sooner than the least duration and the delay after the start.
def wait_at_least(table, number, task):
    start, finish, least, greatest, delay = task
    own_column = table.event_count + number
    for event in range(table.event_count):
        if event != finish:
            tighten(table, event, start, max(table.rows[event][own_column], -(least + delay)))


# By condition 2 a step w and the step behind it are no smaller than one step. So a ring that tighten
# doesn't meet, one with entries u, is no smaller than one of entries u alone, from start to start.
def has_ring_of_waits(table, tasks):
    steps = [table.rows[task[0]][table.event_count:] for task in tasks]
    for middle in range(len(tasks)):
        onward = steps[middle]
        steps = [shortened(row, row[middle], onward) for row in steps]
    return any([steps[number][number] < 0 for number in range(len(tasks))])
