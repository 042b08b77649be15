"""Plans and knobs at the document's limits, with three of the operations 10 to 12 in one list."""

import random
import time
import unittest

from tests.helper import ask, ask_plainly, write_calls

# Far more than is needed, and far less than a search that does not come to its end takes.
MOST_SECONDS = 60

COUNTS = (2, 2, 2, 2, 3, 1)
OPEN = [-1] * 6

# Ten events, the deadline 200, four tasks and thirty requirements: event k + 1 not before event k, event 6 by 190.
# Event 1 is the finish of task 3.
TASKS = [0, 7, 5, 20, 0, 7, 8, 1, 30, 201, 6, 9, 2, 2, 0, 0, 1, 1, 2, 200]
REQUIREMENTS = sum([[event + 1, event, 0] for event in range(6)], []) + [0, 6, 190] * 24


def chain_of(moments):
    """Each setting lets the event behind its knob come so many moments after the one ahead of it, or up to so many."""
    operations = [("load_plan", 10, 200, TASKS, REQUIREMENTS)]
    operations += [("add_knob", list(range(len(row)))) for row in moments]
    for knob, row in enumerate(moments):
        for setting, moment in enumerate(row):
            if knob == 0:
                operations.append(("impose_task", 0, setting, 3, 1, moment, 0))
            else:
                operations.append(("impose_requirement", knob, setting, knob + 1, knob, -moment))
    return operations


# Six times 32 is more than 190, and five times 32 and the task's own 2 are not.
TOO_LONG = chain_of([[32] * count for count in COUNTS])


class Limits(unittest.TestCase):
    def ask_in_time(self, operations):
        begin = time.perf_counter()
        given = ask(*operations)
        self.assertLess(time.perf_counter() - begin, MOST_SECONDS)
        return given

    def full_choices(self):
        choices = [[]]
        for count in COUNTS:
            choices = [choice + [setting] for choice in choices for setting in range(count)]
        return sorted(choices, key=lambda choice: (sum(choice), choice))

    def test_each_full_choice_is_a_conflict_of_its_own(self):
        full = self.full_choices()
        self.assertEqual(len(full), 48)
        numbers = sum(full, [])
        operations = TOO_LONG + [
            ("summary",),
            ("cheapest", OPEN),
            ("check", OPEN, [], numbers),
            ("extra", 4, 2),
            ("conflict", full[-1]),
            ("possible", full[-1][:5] + [-1]),
        ]
        given = self.ask_in_time(operations)
        self.assertEqual(given[-6:], [
            [0, 10, 200, 4, 30, 6, 48], [0, 0, 48] + numbers, [0, 1], [0, 0], [0] + full[-1], [0, 1]])

    def test_only_the_last_choice_is_possible(self):
        # 5 * 20 + 90 is 190, and 32 + 4 * 20 + 90 is more.
        full = self.full_choices()
        operations = chain_of([[32] * (count - 1) + [20] for count in COUNTS[:5]] + [[90]])
        operations += [("set_price", 5, 0, 1000), ("cheapest", OPEN), ("check", OPEN, full[-1], sum(full[:-1], [])),
                       ("extra", 0, 1)]
        given = self.ask_in_time(operations)
        self.assertEqual(given[-3][:9], [0, 1, 1006] + full[-1])
        self.assertEqual(given[-2:], [[0, 1], [0, 1, 0]])
        self.assertEqual(given, ask_plainly(*operations))

    def test_three_of_each_kind_against_the_plain_way(self):
        source = random.Random(61)
        found = []
        for number in range(8):
            operations = random_large_options(source)
            for questions in three_questions(source):
                given = self.ask_in_time(operations + questions)
                self.assertEqual(given, ask_plainly(*operations, *questions))
                found.append(given[-1][1])
        self.assertIn(0, found)
        self.assertIn(1, found)

    def test_sixty_calls_with_all_that_is_allowed(self):
        full = self.full_choices()
        operations = list(TOO_LONG)
        operations += [("conflict", full[number]) for number in range(20)]
        operations += [("cheapest", OPEN)] * 3
        operations += [("price", OPEN)] * (60 - len(operations))
        self.assertEqual(len(operations), 60)
        self.assertLess(len(write_calls(operations)), 25000)
        given = self.ask_in_time(operations)
        self.assertEqual(given[19:39], [[0] + full[number] for number in range(20)])
        self.assertEqual(given[39:42], [[0, 0, 48] + sum(full, [])] * 3)

    def test_long_waits_and_rings_in_large_plans(self):
        # Entries that a ring makes smaller by one moment at a time, up to the greatest deadline.
        steps = sum([[event, event + 1, 20] for event in range(1, 9)], [])
        for last, possible in ((-161, 0), (-160, 1)):
            operations = [("load_plan", 10, 200, [], steps + [9, 1, last]), ("possible", [])]
            self.assertEqual(self.ask_in_time(operations)[-1], [0, possible])


def three_questions(source):
    given = [source.randrange(-1, count) for count in COUNTS]
    return [
        [("cheapest", OPEN), ("cheapest", given), ("extra", 4, source.randrange(3))],
        [("check", OPEN, [], []), ("extra", 0, 0), ("cheapest", given)],
    ]


def random_large_options(source):
    """Six knobs, forty-eight full choices, thirty imposed requirements and a dozen widenings."""
    moments = [0] + sorted(source.randint(0, 150) for event in range(9))
    tasks = []
    for start, finish in ((0, 3), (2, 5), (3, 6), (1, 8)):
        least = max(1, moments[finish] - moments[start] - 5)
        tasks += [start, finish, least, least + source.randint(0, 10), 0 if finish == 3 else source.choice([0, 1, 3])]
    requirements = []
    for number in range(30):
        first, second = source.randrange(10), source.choice([4, 7, 9])
        requirements += [first, second, moments[second] - moments[first] + source.randint(15, 60)]
    operations = [("load_plan", 10, 200, tasks, requirements)]
    for count in COUNTS:
        operations.append(("add_knob", [source.randint(0, 3) for setting in range(count)]))
    places = [(knob, setting) for knob, count in enumerate(COUNTS) for setting in range(count)]
    for number in range(30):
        first, second = source.randrange(10), source.randrange(10)
        most = moments[second] - moments[first] + source.randint(5, 40)
        operations.append(("impose_requirement", *source.choice(places), first, second, most))
    for place in places:
        task = source.randrange(4)
        least, greatest = tasks[5 * task + 2:5 * task + 4]
        delay = 0 if task == 0 else source.randint(0, 8)
        operations.append(("impose_task", *place, task, max(1, least - 3), greatest + source.randint(0, 8), delay))
    return operations


if __name__ == "__main__":
    unittest.main()
