"""price, possible, conflict and summary."""

import itertools
import random
import unittest

from tests.helper import CHAIN, CHAIN_COUNTS, EXAMPLE, REFUSED_QUESTIONS
from tests.helper import all_choices, ask, ask_last, ask_plainly, outcome, random_options

MOMENTS = ((6, 3, 1), (6, 2), (5, 1))

IMPOSSIBLE_PLAN = ("load_plan", 2, 5, [], [0, 1, 2, 1, 0, -3])

# Any two of the three knobs' only settings are too much for the deadline.
PAIRS = [
    ("load_plan", 4, 5, [], [2, 1, 0, 3, 2, 0]),
    ("add_knob", [1]),
    ("add_knob", [2]),
    ("add_knob", [4]),
    ("impose_requirement", 0, 0, 1, 0, -3),
    ("impose_requirement", 1, 0, 2, 1, -3),
    ("impose_requirement", 2, 0, 3, 2, -3),
]


def chain_moments(choice):
    return sum(moments[setting] for moments, setting in zip(MOMENTS, choice) if setting != -1)


class Refused(unittest.TestCase):
    def test_what_is_not_as_described(self):
        for refused in REFUSED_QUESTIONS:
            with self.subTest(refused=refused):
                self.assertEqual(outcome(EXAMPLE, refused), [-1])

    def test_without_knobs(self):
        for name in ("price", "possible", "conflict", "cheapest"):
            for choice in ([-1], [0], [-1, -1], [0] * 200):
                with self.subTest(name=name, choice=choice):
                    self.assertEqual(ask_last((name, choice)), [-1])
                    self.assertEqual(outcome([IMPOSSIBLE_PLAN], (name, choice)), [-1])
        self.assertEqual(ask(("extra", 0, 0), ("extra", -1, -1)), [[-1], [-1]])

    def test_numbers_below_minus_1_and_settings_that_do_not_exist(self):
        for knob, count in enumerate(CHAIN_COUNTS):
            for setting in (-2, -1, 0, count - 1, count, 10 ** 12, -10 ** 12):
                choice = [0, 0, 0]
                choice[knob] = setting
                for name in ("price", "possible", "conflict", "cheapest"):
                    with self.subTest(name=name, choice=choice):
                        refused = not -1 <= setting < count
                        self.assertEqual(outcome(CHAIN, (name, choice)) == [-1], refused)

    def test_choices_of_earlier_knobs(self):
        self.assertEqual(ask_last(*EXAMPLE, IMPOSSIBLE_PLAN, ("possible", [0, 0, 0])), [-1])
        self.assertEqual(ask_last(*EXAMPLE, ("add_knob", [1]), ("price", [0, 0, 0])), [-1])


class Price(unittest.TestCase):
    def test_example(self):
        for choice in all_choices((2, 3, 2)):
            prices = ((0, 5), (0, 2, 4), (0, 3))
            wanted = sum(prices[knob][setting] for knob, setting in enumerate(choice) if setting != -1)
            with self.subTest(choice=choice):
                self.assertEqual(outcome(EXAMPLE, ("price", choice)), [0, wanted])

    def test_without_knobs(self):
        self.assertEqual(ask(("price", [])), [[0, 0]])

    def test_impossible_choice_has_a_price_too(self):
        self.assertEqual(outcome([IMPOSSIBLE_PLAN, ("add_knob", [7])], ("price", [0])), [0, 7])

    def test_greatest_price(self):
        knobs = [("add_knob", [1000])] * 6
        self.assertEqual(ask_last(*knobs, ("price", [0] * 6)), [0, 6000])

    def test_price_that_has_been_set(self):
        given = ask(*EXAMPLE, ("price", [1, 2, 1]), ("set_price", 1, 2, 900), ("price", [1, 2, 1]),
                    ("price", [1, 1, 1]), ("set_price", 1, 2, 0), ("price", [1, 2, 1]))
        self.assertEqual(given[len(EXAMPLE):], [[0, 12], [0], [0, 908], [0, 10], [0], [0, 8]])


class Possible(unittest.TestCase):
    def test_example(self):
        # Two moments late never is, one moment late is not with a slow machine by moment 4, at once is not either.
        for choice in all_choices((2, 3, 2)):
            wanted = int(choice[1] != 0 and not (choice[0] == 0 and choice[2] == 0))
            with self.subTest(choice=choice):
                self.assertEqual(outcome(EXAMPLE, ("possible", choice)), [0, wanted])

    def test_chain(self):
        for choice in all_choices(CHAIN_COUNTS):
            with self.subTest(choice=choice):
                wanted = int(chain_moments(choice) <= 10)
                self.assertEqual(outcome(CHAIN, ("possible", choice)), [0, wanted])

    def test_without_knobs(self):
        self.assertEqual(ask(("possible", [])), [[0, 1]])
        self.assertEqual(ask(IMPOSSIBLE_PLAN, ("possible", [])), [[0], [0, 0]])

    def test_after_each_change(self):
        steps = [("impose_requirement", 0, 0, 0, 1, 4), ("impose_task", 0, 0, 0, 1, 5, 0),
                 ("impose_task", 0, 0, 0, 1, 4, 0), ("impose_requirement", 0, 1, 1, 0, -1), ("set_price", 0, 0, 9),
                 ("impose_requirement", 0, 1, 1, 0, -2), ("load_plan", 2, 8, [0, 1, 1, 9, 0], []), ("add_knob", [1])]
        operations = [("load_plan", 2, 8, [0, 1, 1, 3, 0], []), ("add_knob", [1, 2])]
        wanted = [(1, 1), (0, 1), (1, 1), (1, 1), (1, 1), (1, 0), (None, None), (0, None)]
        for step, verdicts in zip(steps, wanted):
            operations.append(step)
            for setting, verdict in enumerate(verdicts):
                operations.append(("possible", [setting]))
            given = ask(*operations)[-2:]
            with self.subTest(step=step):
                self.assertEqual(given, [[-1] if verdict is None else [0, verdict] for verdict in verdicts])

    def test_twenty_in_one_list(self):
        choices = (all_choices(CHAIN_COUNTS) * 2)[:20]
        given = ask(*CHAIN, *[("possible", choice) for choice in choices])
        self.assertEqual(given[len(CHAIN):], [[0, int(chain_moments(choice) <= 10)] for choice in choices])


class Conflict(unittest.TestCase):
    def test_example(self):
        self.assertEqual(outcome(EXAMPLE, ("conflict", [0, 0, -1])), [0, -1, 0, -1])
        self.assertEqual(outcome(EXAMPLE, ("conflict", [0, 2, 0])), [0, 0, -1, 0])
        self.assertEqual(outcome(EXAMPLE, ("conflict", [0, -1, 0])), [0, 0, -1, 0])
        self.assertEqual(outcome(EXAMPLE, ("conflict", [-1, 0, -1])), [0, -1, 0, -1])

    def test_chain(self):
        conflicts = {
            (0, 0, 0): [0, 0, -1], (0, 0, 1): [0, 0, -1], (0, 0, -1): [0, 0, -1], (0, -1, 0): [0, -1, 0],
            (0, 1, 0): [0, -1, 0], (-1, 0, 0): [-1, 0, 0], (1, 0, 0): [-1, 0, 0], (2, 0, 0): [-1, 0, 0],
        }
        for choice in all_choices(CHAIN_COUNTS):
            with self.subTest(choice=choice):
                wanted = [0] + conflicts[tuple(choice)] if tuple(choice) in conflicts else [-2]
                self.assertEqual(outcome(CHAIN, ("conflict", choice)), wanted)

    def test_settings_are_left_out_from_the_last_knob_on(self):
        self.assertEqual(outcome(PAIRS, ("conflict", [0, 0, 0])), [0, 0, 0, -1])
        self.assertEqual(outcome(PAIRS, ("conflict", [0, -1, 0])), [0, 0, -1, 0])
        self.assertEqual(outcome(PAIRS, ("conflict", [-1, 0, 0])), [0, -1, 0, 0])

    def test_all_settings_are_needed(self):
        start = PAIRS[:1] + PAIRS[1:4] + [
            ("impose_requirement", knob, 0, knob + 1, knob, -2) for knob in range(3)]
        self.assertEqual(outcome(start, ("conflict", [0, 0, 0])), [0, 0, 0, 0])
        self.assertEqual(outcome(start, ("conflict", [0, 0, -1])), [-2])

    def test_plan_that_is_impossible_itself(self):
        start = [IMPOSSIBLE_PLAN, ("add_knob", [1, 2]), ("add_knob", [3])]
        for choice in all_choices((2, 1)):
            self.assertEqual(outcome(start, ("conflict", choice)), [0, -1, -1])

    def test_without_knobs(self):
        self.assertEqual(ask(("conflict", [])), [[-2]])
        self.assertEqual(ask(IMPOSSIBLE_PLAN, ("conflict", [])), [[0], [0]])

    def test_each_setting_left_out_by_itself(self):
        source = random.Random(21)
        found = 0
        for number in range(400):
            counts = source.choice([(2, 2), (3, 2, 2), (1, 2, 2), (2, 2, 2, 2)])
            start = random_options(source, 5, 8, 2, counts)
            for choice in itertools.product(*[range(count) for count in counts]):
                status, *conflict = outcome(start, ("conflict", list(choice)))
                if status == -2:
                    continue
                found += sum(setting != -1 for setting in conflict) > 1
                self.check_conflict(start, choice, conflict)
        self.assertGreater(found, 50)

    def check_conflict(self, start, choice, conflict):
        self.assertTrue(all(kept in (-1, setting) for kept, setting in zip(conflict, choice)))
        self.assertEqual(outcome(start, ("possible", conflict)), [0, 0], (start, choice))
        for knob, setting in enumerate(conflict):
            if setting != -1:
                left = conflict[:knob] + [-1] + conflict[knob + 1:]
                self.assertEqual(outcome(start, ("possible", left)), [0, 1], (start, choice))


class Summary(unittest.TestCase):
    def test_beginning(self):
        self.assertEqual(ask(("summary",)), [[0, 1, 1, 0, 0, 0, 1]])

    def test_imposed_requirements_are_not_the_plan_s(self):
        self.assertEqual(outcome(EXAMPLE, ("summary",)), [0, 3, 8, 1, 2, 3, 12])
        self.assertEqual(outcome(CHAIN, ("summary",)), [0, 4, 10, 0, 2, 3, 12])

    def test_full_choices(self):
        counts = (1, 2, 3, 4, 2)
        for number in range(len(counts) + 1):
            product = 1
            for count in counts[:number]:
                product *= count
            knobs = [("add_knob", [5] * count) for count in counts[:number]]
            self.assertEqual(ask_last(*knobs, ("summary",)), [0, 1, 1, 0, 0, number, product])

    def test_largest_plan(self):
        tasks = sum([[0, finish, 1, 3, 0] for finish in range(1, 5)], [])
        start = [("load_plan", 10, 200, tasks, [8, 9, 5] * 30)]
        self.assertEqual(outcome(start, ("summary",)), [0, 10, 200, 4, 30, 0, 1])


class SecondWay(unittest.TestCase):
    def test_random_options(self):
        source = random.Random(22)
        told = []
        for number in range(120):
            counts = source.choice([(1,), (2, 2), (3, 2, 2), (1, 2, 2), (5, 2), (2, 2, 2, 2)])
            start = random_options(source, 5, 8, 3, counts)
            choices = all_choices(counts)
            questions = [("summary",)]
            for choice in source.sample(choices, min(10, len(choices))):
                questions += [("price", choice), ("possible", choice), ("conflict", choice)]
            operations = (start + questions)[:60]
            self.assertEqual(ask(*operations), ask_plainly(*operations))
            told += ask(*operations)[len(start):]
        for answer in ([0, 0], [0, 1], [-2]):
            self.assertGreater(told.count(answer), 100)


if __name__ == "__main__":
    unittest.main()
