"""Writes operations as calls, cuts the list that is given back into answers, and does what the document says in a
second, plain way that tests hold the program against."""

import functools
import itertools

from knobplans.desk import answers

NUMBERS = {
    "load_plan": 0, "add_knob": 1, "impose_requirement": 2, "impose_task": 3,
    "set_price": 4, "print_plan": 5, "print_knobs": 6, "price": 7, "possible": 8, "conflict": 9,
    "cheapest": 10, "check": 11, "extra": 12, "summary": 13,
}

BIG = 10 ** 12
ENDLESS = 10 ** 9

EXAMPLE = [
    ("load_plan", 3, 8, [0, 1, 1, 3, 0], [2, 1, 0, 1, 2, 1]),
    ("add_knob", [0, 5]),
    ("add_knob", [0, 2, 4]),
    ("add_knob", [0, 3]),
    ("impose_task", 0, 0, 0, 1, 6, 0),
    ("impose_task", 1, 0, 0, 1, 3, 2),
    ("impose_task", 1, 1, 0, 1, 3, 1),
    ("impose_requirement", 2, 0, 0, 2, 4),
]

# Setting by setting, knob i lets event i + 1 happen at least so many moments after event i:
# 6, 3 or 1 for knob 0, 6 or 2 for knob 1, 5 or 1 for knob 2. A choice is possible if these add up to 10 at most.
CHAIN = [
    ("load_plan", 4, 10, [], [2, 1, 0, 3, 2, 0]),
    ("add_knob", [0, 2, 5]),
    ("add_knob", [0, 3]),
    ("add_knob", [0, 4]),
    ("impose_requirement", 0, 0, 1, 0, -6),
    ("impose_requirement", 0, 1, 1, 0, -3),
    ("impose_requirement", 0, 2, 1, 0, -1),
    ("impose_requirement", 1, 0, 2, 1, -6),
    ("impose_requirement", 1, 1, 2, 1, -2),
    ("impose_requirement", 2, 0, 3, 2, -5),
    ("impose_requirement", 2, 1, 3, 2, -1),
]
CHAIN_COUNTS = (3, 2, 2)
CHAIN_CONFLICTS = [0, 0, -1, -1, 0, 0, 0, -1, 0]
OPEN = [-1, -1, -1]

# Calls that are refused behind EXAMPLE, each for one reason.
REFUSED_QUESTIONS = [
    ("price", []),
    ("price", [0, 0]),
    ("price", [0, 0, 0, 0]),
    ("price", [0, 3, 0]),
    ("possible", [0, 0]),
    ("possible", [0, 0, 0, -1]),
    ("possible", [2, 0, 0]),
    ("possible", [0, -2, 0]),
    ("conflict", []),
    ("conflict", [0, 0, 0, 0]),
    ("conflict", [0, 0, 2]),
    ("conflict", [BIG, 0, 0]),
    ("cheapest", [-1, -1]),
    ("cheapest", [-1] * 200),
    ("cheapest", [-1, -1, -2]),
    ("cheapest", [-1, 3, -1]),
    ("check", [-1, -1], [0, 1, 1], []),
    ("check", [-1, -1, 2], [0, 1, 1], []),
    ("check", [-1, -1, -1], [0, 1], []),
    ("check", [-1, -1, -1], [0, 1, 1, 1], []),
    ("check", [-1, -1, -1], [0, 1, 2], []),
    ("check", [-1, -1, -1], [0, -2, 1], []),
    ("check", [-1, -1, -1], [0, 1, 1], [-1, 0]),
    ("check", [-1, -1, -1], [0, 1, 1], [-1, 0, -1, 0]),
    ("check", [-1, -1, -1], [0, 1, 1], [-1, 0, -1, 0, -1, 2]),
    ("check", [-1, -1, -1], [0, 1, 1], [-1, 0, -2]),
    ("check", [-1, -1, -1], [], [2, 0, 0]),
    ("check", [-1, -1, -1], [0, 1, 1], [-1, 0, -1] * 65),
    ("extra", -1, 0),
    ("extra", 3, 0),
    ("extra", 0, -1),
    ("extra", 0, 2),
    ("extra", BIG, -BIG),
]


def write_calls(operations):
    """An operation is a tuple: its name, then its whole numbers and its lists."""
    calls = []
    for name, *parameters in operations:
        calls.append(NUMBERS[name])
        for parameter in parameters:
            if isinstance(parameter, list):
                calls.append(len(parameter))
                calls.extend(parameter)
            else:
                calls.append(parameter)
    return calls


def cut_answers(given):
    cut = []
    at = 0
    while at < len(given):
        end = at + 1 + given[at]
        cut.append(given[at + 1:end])
        at = end
    return cut


def ask(*operations):
    cut = cut_answers(answers(write_calls(operations)))
    assert len(cut) == len(operations), cut
    return cut


def ask_last(*operations):
    return ask(*operations)[-1]


def outcome(preparation, operation):
    """The answer of an operation behind a preparation that has to succeed."""
    *before, last = ask(*preparation, operation)
    assert all(answer[0] == 0 for answer in before), before
    return last


def rows_of(numbers, width):
    return tuple(tuple(numbers[at:at + width]) for at in range(0, len(numbers), width))


def cut_plan(answer):
    """Count, deadline, tasks as rows and requirements as rows, out of an answer of print_plan."""
    status, count, deadline, task_count = answer[:4]
    end = 4 + 5 * task_count
    assert (status, 3 * answer[end]) == (0, len(answer) - end - 1)
    return count, deadline, rows_of(answer[4:end], 5), rows_of(answer[end + 1:], 3)


class PlainTable:
    """The entries w and u of the document; the conditions in without (1 to 4) are left out."""

    def __init__(self, plan, without):
        self.count, self.deadline, self.tasks, self.requirements = plan
        self.without = without
        self.events = range(self.count)
        self.w = {pair: self.deadline for pair in itertools.product(self.events, self.events)}
        self.u = {pair: ENDLESS for pair in itertools.product(range(len(self.tasks)), self.events)}
        self.changed = True

    def lower(self, condition, entries, place, most):
        if condition not in self.without and most < entries[place]:
            entries[place] = most
            self.changed = True

    def condition_1(self):
        for source, target, most in self.requirements:
            self.lower(1, self.w, (source, target), most)
        for i in self.events:
            self.lower(1, self.w, (0, i), self.deadline)
            self.lower(1, self.w, (i, 0), 0)
            self.lower(1, self.w, (i, i), 0)
        for k, (a, c, x, y, r) in enumerate(self.tasks):
            self.lower(1, self.w, (a, c), y)
            self.lower(1, self.w, (c, a), -x)
            self.lower(1, self.u, (k, c), -y)

    def condition_2(self):
        for i, j in itertools.product(self.events, self.events):
            for m in self.events:
                self.lower(2, self.w, (i, j), self.w[i, m] + self.w[m, j])
            for k in range(len(self.tasks)):
                self.lower(2, self.u, (k, i), self.w[i, j] + self.u[k, j])

    def condition_3(self):
        for k, (a, c, x, y, r) in enumerate(self.tasks):
            for d in self.events:
                if d != c and self.w[c, d] < r:
                    self.lower(3, self.w, (a, d), x + self.w[c, d])
            for b in range(len(self.tasks)):
                if b != k and self.u[b, c] < r:
                    self.lower(3, self.u, (b, a), x + self.u[b, c])

    def condition_4(self):
        for k, (a, c, x, y, r) in enumerate(self.tasks):
            for i in self.events:
                if i != c:
                    self.lower(4, self.w, (i, a), max(self.u[k, i], -(x + r)))

    def has_ring(self):
        least = dict(self.w)
        for k, i in self.u:
            start = self.tasks[k][0]
            least[i, start] = min(least[i, start], self.u[k, i])
        for m, i, j in itertools.product(self.events, self.events, self.events):
            least[i, j] = min(least[i, j], least[i, m] + least[m, j])
        return any(least[i, i] < 0 for i in self.events)


@functools.lru_cache(maxsize=None)
def accepted_plainly(plan, without=()):
    """A plan is a tuple: count, deadline, tasks and requirements, these as tuples of tuples."""
    table = PlainTable(plan, without)
    while table.changed and not table.has_ring():
        table.changed = False
        table.condition_1()
        table.condition_2()
        table.condition_3()
        table.condition_4()
    return not table.has_ring()


class Dispatchers:
    """Tries all that a dispatcher can do, moment by moment, against all durations: for very small plans alone."""

    def __init__(self, plan):
        self.count, self.deadline, self.tasks, self.requirements = plan
        self.task_by_finish = {task[1]: number for number, task in enumerate(self.tasks)}
        self.free = [event for event in range(1, self.count) if event not in self.task_by_finish]
        self.durations = list(itertools.product(*[range(task[2], task[3] + 1) for task in self.tasks]))

    def some_keeps_the_plan(self):
        begun = {0: 0}
        return self.is_kept(self.durations, begun) and self.wins(0, self.durations, begun)

    def moment(self, event, durations, done):
        if event not in self.task_by_finish:
            return done.get(event)
        number = self.task_by_finish[event]
        begun = self.moment(self.tasks[number][0], durations, done)
        return None if begun is None else begun + durations[number]

    def is_kept(self, thinkable, done):
        return all(self.is_kept_with(durations, done) for durations in thinkable)

    def is_kept_with(self, durations, done):
        moments = [self.moment(event, durations, done) for event in range(self.count)]
        if any(moment is not None and moment > self.deadline for moment in moments):
            return False
        return not any(
            None not in (moments[source], moments[target]) and moments[target] - moments[source] > most
            for source, target, most in self.requirements)

    def wins(self, now, thinkable, done):
        """Thinkable are the durations that fit what has been seen before now; done, the events and their moments."""
        if now > self.deadline:
            return all(event in done for event in self.free)
        by_sight = {}
        for durations in thinkable:
            by_sight.setdefault(self.seen(now, durations, done), []).append(durations)
        return all(self.goes_on(now, alike, done) for alike in by_sight.values())

    def seen(self, now, durations, done):
        finishes = [self.moment(task[1], durations, done) for task in self.tasks]
        return tuple(
            finish is not None and finish + task[4] == now for finish, task in zip(finishes, self.tasks))

    def goes_on(self, now, thinkable, done):
        left = [event for event in self.free if event not in done]
        for size in range(len(left), -1, -1):
            for events in itertools.combinations(left, size):
                then = {**done, **{event: now for event in events}}
                if self.is_kept(thinkable, then) and self.wins(now + 1, thinkable, then):
                    return True
        return False


class PlainDesk:
    """Answers operations that are not refused with -1, each one by a method of its name."""

    def __init__(self):
        self.plan = (1, 1, (), ())
        self.knobs = []

    def load_plan(self, count, deadline, tasks, requirements):
        self.plan = (count, deadline, rows_of(tasks, 5), rows_of(requirements, 3))
        self.knobs = []
        return [0]

    def add_knob(self, prices):
        self.knobs.append([{"price": price, "requirements": [], "widenings": {}} for price in prices])
        return [0, len(self.knobs) - 1]

    def impose_requirement(self, knob, setting, *requirement):
        self.knobs[knob][setting]["requirements"].append(requirement)
        return [0]

    def impose_task(self, knob, setting, task, *widening):
        self.knobs[knob][setting]["widenings"].pop(task, None)
        self.knobs[knob][setting]["widenings"][task] = widening
        return [0]

    def set_price(self, knob, setting, price):
        self.knobs[knob][setting]["price"] = price
        return [0]

    def print_plan(self, choice):
        count, deadline, tasks, requirements = self.plan_of(choice)
        return [0, count, deadline, len(tasks), *sum(tasks, ()), len(requirements), *sum(requirements, ())]

    def print_knobs(self):
        told = [0, len(self.knobs)]
        for settings in self.knobs:
            told.append(len(settings))
            for setting in settings:
                told += [setting["price"], len(setting["requirements"]), *sum(setting["requirements"], ())]
                widenings = [(task, *widening) for task, widening in setting["widenings"].items()]
                told += [len(widenings), *sum(widenings, ())]
        return told

    def price(self, choice):
        return [0, self.price_of(choice)]

    def possible(self, choice):
        return [0, int(self.is_possible(choice))]

    def conflict(self, choice):
        return [-2] if self.is_possible(choice) else [0, *self.conflict_of(choice)]

    def cheapest(self, choice):
        found, conflicts = self.search(choice)
        told = [len(conflicts), *sum(conflicts, [])]
        return [0, 0, *told] if found is None else [0, 1, self.price_of(found), *found, *told]

    def check(self, choice, claimed, conflicts):
        before = self.full_choices(choice)
        if claimed or not self.knobs:
            if claimed not in before or not self.is_possible(claimed):
                return [0, 0, 1]
            before = before[:before.index(claimed)]
        parts = rows_of(conflicts, max(1, len(self.knobs)))
        for index, part in enumerate(parts):
            if self.is_possible(part):
                return [0, 0, 2, index]
        for full in before:
            if not any(self.extends(full, part) for part in parts):
                return [0, 0, 3, *full]
        return [0, 1]

    def extra(self, knob, setting):
        possible = [full for full in self.full_choices([-1] * len(self.knobs)) if self.is_possible(full)]
        bound = [full for full in possible if full[knob] == setting]
        return [0, 1, self.price_of(bound[0]) - self.price_of(possible[0])] if bound else [0, 0]

    def summary(self):
        count, deadline, tasks, requirements = self.plan
        full_choices = self.full_choices([-1] * len(self.knobs))
        return [0, count, deadline, len(tasks), len(requirements), len(self.knobs), len(full_choices)]

    def settings_of(self, choice):
        return [self.knobs[knob][setting] for knob, setting in enumerate(choice) if setting >= 0]

    def price_of(self, choice):
        return sum(setting["price"] for setting in self.settings_of(choice))

    def plan_of(self, choice):
        count, deadline, tasks, requirements = self.plan
        settings = self.settings_of(choice)
        widened = []
        for task, (start, finish, *own) in enumerate(tasks):
            all_of_it = [own] + [setting["widenings"][task] for setting in settings if task in setting["widenings"]]
            leasts, greatests, delays = zip(*all_of_it)
            widened.append((start, finish, min(leasts), max(greatests), max(delays)))
        imposed = [tuple(row) for setting in settings for row in setting["requirements"]]
        return count, deadline, tuple(widened), requirements + tuple(imposed)

    def is_possible(self, choice):
        return accepted_plainly(self.plan_of(choice))

    def extends(self, choice, part):
        return all(asked in (-1, setting) for setting, asked in zip(choice, part))

    def full_choices(self, given):
        every = itertools.product(*[range(len(settings)) for settings in self.knobs])
        extending = [list(full) for full in every if self.extends(full, given)]
        return sorted(extending, key=lambda full: (self.price_of(full), full))

    def conflict_of(self, choice):
        left = list(choice)
        for knob in reversed(range(len(left))):
            setting, left[knob] = left[knob], -1
            if self.is_possible(left):
                left[knob] = setting
        return left

    def search(self, given):
        conflicts = []
        for full in self.full_choices(given):
            if any(self.extends(full, part) for part in conflicts):
                continue
            if self.is_possible(full):
                return full, conflicts
            conflicts.append(self.conflict_of(full))
        return None, conflicts


def ask_plainly(*operations):
    desk = PlainDesk()
    return [getattr(desk, name)(*parameters) for name, *parameters in operations]


def all_choices(setting_counts):
    return [list(choice) for choice in itertools.product(*[range(-1, count) for count in setting_counts])]


def random_plan(random, most_events, deadline, most_tasks):
    """A load_plan that is not refused."""
    while True:
        count = random.randint(2, most_events)
        tasks = []
        for _ in range(random.randint(1, most_tasks)):
            least = random.randint(1, 2)
            delay = random.choice([0, 0, 1, 2, deadline, deadline + 1])
            tasks += [random.randrange(count), random.randrange(count), least, least + random.randint(0, 2), delay]
        requirements = []
        for _ in range(random.randint(0, 3)):
            requirements += random_requirement(random, count)
        load = ("load_plan", count, deadline, tasks, requirements)
        if ask(load) == [[0]]:
            return load


def random_requirement(random, count):
    return [random.randrange(count), random.randrange(count), random.choice([-3, -2, -1, -1, 0, 0, 1, 2])]


def random_options(random, most_events, deadline, most_tasks, setting_counts):
    """A random plan with knobs whose settings impose something; the plan without settings is possible."""
    while True:
        load = random_plan(random, most_events, deadline, most_tasks)
        if ask_last(load, ("possible", [])) == [0, 1]:
            break
    operations = [load] + [("add_knob", [random.randint(0, 3) for _ in range(count)]) for count in setting_counts]
    places = [(knob, setting) for knob, count in enumerate(setting_counts) for setting in range(count)]
    for knob, setting in places:
        for _ in range(random.randint(0, 3)):
            if random.randrange(3):
                imposing = ("impose_requirement", knob, setting, *random_requirement(random, load[1]))
            else:
                least = random.randint(1, 2)
                greatest, delay = least + random.randint(0, 3), random.randint(0, 3)
                imposing = ("impose_task", knob, setting, random.randrange(len(load[3]) // 5), least, greatest, delay)
            if ask_last(*operations, imposing) == [0]:
                operations.append(imposing)
    return operations
