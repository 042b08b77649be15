"""Point 1: the plan of a choice is valid and asks at least what the plan asks."""

import unittest

from tests.helper import BIG, EXAMPLE, all_choices, ask, cut_plan, outcome

MIXED = [
    ("load_plan", 5, 20, [0, 1, 3, 6, 0, 1, 2, 4, 5, 2, 0, 3, 2, 2, 21], [2, 3, 0, 4, 1, -2]),
    ("add_knob", [1, 2]),
    ("add_knob", [3, 4, 5]),
    ("add_knob", [6]),
    ("impose_requirement", 2, 0, 4, 4, 6),
    ("impose_requirement", 1, 1, 0, 4, 4),
    ("impose_requirement", 0, 0, 0, 1, 2),
    ("impose_requirement", 1, 1, 0, 2, 3),
    ("impose_requirement", 0, 0, 0, 3, 1),
    ("impose_requirement", 0, 1, 1, 0, 5),
    ("impose_task", 0, 0, 1, 2, 4, 7),
    ("impose_task", 1, 1, 1, 3, 9, 5),
    ("impose_task", 2, 0, 1, 5, 8, 1),
    ("impose_task", 0, 1, 0, 1, 1, 0),
    ("impose_task", 1, 0, 0, 7, 8, 0),
    ("impose_task", 1, 1, 2, 2, 3, 3),
    ("impose_task", 2, 0, 2, 1, 1, 0),
]
SETTING_COUNTS = (2, 3, 1)


class PlanOfChoice(unittest.TestCase):
    def check(self, choice, tasks, requirements):
        self.assertEqual(outcome(MIXED, ("print_plan", choice)), [0, 5, 20] + tasks + requirements)

    def test_documents_example(self):
        self.assertEqual(
            outcome(EXAMPLE, ("print_plan", [0, 1, -1])),
            [0, 3, 8, 1, 0, 1, 1, 6, 1, 2, 2, 1, 0, 1, 2, 1])

    def test_no_settings(self):
        self.check([-1, -1, -1],
                   [3, 0, 1, 3, 6, 0, 1, 2, 4, 5, 2, 0, 3, 2, 2, 21],
                   [2, 2, 3, 0, 4, 1, -2])

    def test_one_knob(self):
        self.check([0, -1, -1],
                   [3, 0, 1, 3, 6, 0, 1, 2, 2, 5, 7, 0, 3, 2, 2, 21],
                   [4, 2, 3, 0, 4, 1, -2, 0, 1, 2, 0, 3, 1])
        self.check([1, -1, -1],
                   [3, 0, 1, 1, 6, 0, 1, 2, 4, 5, 2, 0, 3, 2, 2, 21],
                   [3, 2, 3, 0, 4, 1, -2, 1, 0, 5])
        self.check([-1, 0, -1],
                   [3, 0, 1, 3, 8, 0, 1, 2, 4, 5, 2, 0, 3, 2, 2, 21],
                   [2, 2, 3, 0, 4, 1, -2])
        self.check([-1, 2, -1],
                   [3, 0, 1, 3, 6, 0, 1, 2, 4, 5, 2, 0, 3, 2, 2, 21],
                   [2, 2, 3, 0, 4, 1, -2])

    def test_some_knobs(self):
        self.check([-1, 1, 0],
                   [3, 0, 1, 3, 6, 0, 1, 2, 3, 9, 5, 0, 3, 1, 3, 21],
                   [5, 2, 3, 0, 4, 1, -2, 0, 4, 4, 0, 2, 3, 4, 4, 6])

    def test_all_knobs(self):
        self.check([0, 1, 0],
                   [3, 0, 1, 3, 6, 0, 1, 2, 2, 9, 7, 0, 3, 1, 3, 21],
                   [7, 2, 3, 0, 4, 1, -2, 0, 1, 2, 0, 3, 1, 0, 4, 4, 0, 2, 3, 4, 4, 6])
        self.check([1, 0, 0],
                   [3, 0, 1, 1, 8, 0, 1, 2, 4, 8, 2, 0, 3, 1, 2, 21],
                   [4, 2, 3, 0, 4, 1, -2, 1, 0, 5, 4, 4, 6])

    def test_replaced_widening_no_longer_counts(self):
        replaced = MIXED + [("impose_task", 1, 1, 1, 4, 6, 3)]
        self.assertEqual(
            outcome(replaced, ("print_plan", [-1, 1, -1]))[3:19],
            [3, 0, 1, 3, 6, 0, 1, 2, 4, 6, 3, 0, 3, 2, 3, 21])

    def test_set_price_has_no_influence(self):
        self.assertEqual(
            outcome(MIXED + [("set_price", 1, 1, 999)], ("print_plan", [0, 1, 0])),
            outcome(MIXED, ("print_plan", [0, 1, 0])))

    def test_each_one_is_valid(self):
        for choice in all_choices(SETTING_COUNTS):
            with self.subTest(choice=choice):
                count, deadline, tasks, requirements = cut_plan(outcome(MIXED, ("print_plan", choice)))
                load = ("load_plan", count, deadline, list(sum(tasks, ())), list(sum(requirements, ())))
                self.assertEqual(ask(load), [[0]])

    def test_each_one_asks_at_least_what_the_plan_asks(self):
        count, deadline, tasks, requirements = cut_plan(outcome(MIXED, ("print_plan", [-1, -1, -1])))
        for choice in all_choices(SETTING_COUNTS):
            with self.subTest(choice=choice):
                plan = cut_plan(outcome(MIXED, ("print_plan", choice)))
                self.assertEqual(plan[:2], (count, deadline))
                self.assertEqual(plan[3][:len(requirements)], requirements)
                self.assertEqual(len(plan[2]), len(tasks))
                for asked, task in zip(plan[2], tasks):
                    self.assertEqual(asked[:2], task[:2])
                    self.assertLessEqual(asked[2], task[2])
                    self.assertGreaterEqual(asked[3], task[3])
                    self.assertGreaterEqual(asked[4], task[4])


class WrongChoices(unittest.TestCase):
    def test_lengths(self):
        for length in range(0, 8):
            with self.subTest(length=length):
                answer = outcome(MIXED, ("print_plan", [-1] * length))
                self.assertEqual(answer[0], 0 if length == 3 else -1)
                self.assertEqual(len(answer) == 1, length != 3)
        self.assertEqual(outcome(MIXED, ("print_plan", [-1] * 200)), [-1])

    def test_settings(self):
        for knob, count in enumerate(SETTING_COUNTS):
            for setting in (-1, 0, count - 1, -2, count, BIG, -BIG):
                with self.subTest(knob=knob, setting=setting):
                    choice = [0, 0, 0]
                    choice[knob] = setting
                    answer = outcome(MIXED, ("print_plan", choice))
                    if -1 <= setting < count:
                        self.assertGreater(len(answer), 1)
                    else:
                        self.assertEqual(answer, [-1])


if __name__ == "__main__":
    unittest.main()
