"""add_knob, impose_requirement, impose_task, set_price, and what print_knobs tells of them."""

import unittest

from tests.helper import BIG, EXAMPLE, ask, ask_last, outcome

BASE = [
    ("load_plan", 4, 8, [0, 1, 2, 5, 0, 1, 2, 2, 5, 3], [2, 3, 0]),
    ("add_knob", [7, 8]),
    ("add_knob", [9]),
]


class Sides(unittest.TestCase):
    def check_sides(self, taken, refused, operation):
        for number in taken:
            with self.subTest(taken=number):
                self.assertEqual(outcome(BASE, operation(number)), [0])
        for number in refused + [BIG, -BIG]:
            with self.subTest(refused=number):
                self.assertEqual(outcome(BASE, operation(number)), [-1])


class AddKnob(unittest.TestCase):
    def test_knobs_are_numbered_from_0(self):
        self.assertEqual(
            ask(("add_knob", [5]), ("add_knob", [0, 1000, 3]), ("print_knobs",)),
            [[0, 0], [0, 1], [0, 2, 1, 5, 0, 0, 3, 0, 0, 0, 1000, 0, 0, 3, 0, 0]])

    def test_one_to_five_prices(self):
        for length in range(0, 8):
            with self.subTest(length=length):
                self.assertEqual(ask_last(("add_knob", [1] * length)), [0, 0] if 1 <= length <= 5 else [-1])
        self.assertEqual(ask_last(("add_knob", [1] * 200)), [-1])

    def test_price_limits(self):
        for price in (0, 1000):
            self.assertEqual(ask_last(("add_knob", [4, price])), [0, 0])
        for price in (-1, 1001, BIG, -BIG):
            self.assertEqual(ask_last(("add_knob", [4, price])), [-1])
            self.assertEqual(ask_last(("add_knob", [price, 4])), [-1])

    def test_at_most_six_knobs(self):
        self.assertEqual(ask(*[("add_knob", [1])] * 7), [[0, n] for n in range(6)] + [[-1]])

    def test_at_most_48_full_choices(self):
        def after(lengths):
            return ask(*[("add_knob", [1] * length) for length in lengths])

        self.assertEqual(after([3, 4, 4]), [[0, 0], [0, 1], [0, 2]])
        self.assertEqual(after([5, 3, 3]), [[0, 0], [0, 1], [0, 2]])
        self.assertEqual(after([5, 5, 2]), [[0, 0], [0, 1], [-1]])
        self.assertEqual(after([4, 4, 4, 3, 2]), [[0, 0], [0, 1], [-1], [0, 2], [-1]])
        self.assertEqual(after([2, 2, 2, 2, 3, 2]), [[0, n] for n in range(5)] + [[-1]])
        self.assertEqual(after([2, 2, 2, 2, 3, 1]), [[0, n] for n in range(6)])
        self.assertEqual(after([1, 2, 5, 5, 4]), [[0, 0], [0, 1], [0, 2], [-1], [0, 3]])


class ImposeRequirement(Sides):
    def test_answer_and_order(self):
        operations = BASE + [
            ("impose_requirement", 0, 1, 2, 3, -1000),
            ("impose_requirement", 0, 1, 0, 0, 1000),
            ("impose_requirement", 1, 0, 3, 0, 4),
            ("impose_requirement", 0, 1, 2, 3, -1000),
            ("print_knobs",),
        ]
        given = ask(*operations)
        self.assertEqual(given[3:-1], [[0]] * 4)
        self.assertEqual(given[-1], [
            0, 2,
            2, 7, 0, 0,
            8, 3, 2, 3, -1000, 0, 0, 1000, 2, 3, -1000, 0,
            1, 9, 1, 3, 0, 4, 0])

    def test_knob(self):
        self.check_sides([0, 1], [-1, 2], lambda knob: ("impose_requirement", knob, 0, 1, 2, 3))

    def test_setting(self):
        self.check_sides([0, 1], [-1, 2], lambda setting: ("impose_requirement", 0, setting, 1, 2, 3))
        self.check_sides([0], [-1, 1], lambda setting: ("impose_requirement", 1, setting, 1, 2, 3))

    def test_source(self):
        self.check_sides([0, 3], [-1, 4], lambda source: ("impose_requirement", 0, 0, source, 2, 3))

    def test_target(self):
        self.check_sides([0, 3], [-1, 4], lambda target: ("impose_requirement", 0, 0, 2, target, 3))

    def test_most(self):
        self.check_sides([-1000, 0, 1000], [-1001, 1001], lambda most: ("impose_requirement", 0, 0, 1, 2, most))

    def test_thirty_over_all_settings(self):
        imposed = [("impose_requirement", 0, 0, 1, 2, 3)] * 10
        imposed += [("impose_requirement", 0, 1, 1, 2, 3)] * 10
        imposed += [("impose_requirement", 1, 0, 1, 2, 3)] * 9
        last = ("impose_requirement", 1, 0, 1, 2, 3)
        self.assertEqual(outcome(BASE + imposed, last), [0])
        for refused in (("impose_requirement", knob, setting, 1, 2, 3) for knob, setting in ((0, 0), (0, 1), (1, 0))):
            self.assertEqual(outcome(BASE + imposed + [last], refused), [-1])

    def test_thirty_in_one_setting(self):
        one = ("impose_requirement", 0, 0, 1, 2, 3)
        self.assertEqual(outcome(BASE + [one] * 29, one), [0])
        self.assertEqual(outcome(BASE + [one] * 30, one), [-1])

    def test_the_plan_s_requirements_do_not_count(self):
        start = [("load_plan", 3, 8, [], [1, 2, 5] * 30), ("add_knob", [0])]
        one = ("impose_requirement", 0, 0, 2, 1, -5)
        self.assertEqual(outcome(start + [one] * 29, one), [0])
        self.assertEqual(outcome(start + [one] * 30, ("print_plan", [0])),
                         [0, 3, 8, 0, 60] + [1, 2, 5] * 30 + [2, 1, -5] * 30)


class ImposeTask(Sides):
    def test_answer_and_replacing(self):
        operations = BASE + [
            ("impose_task", 0, 0, 0, 3, 4, 0),
            ("impose_task", 0, 0, 1, 1, 1000, 9),
            ("impose_task", 0, 1, 0, 6, 7, 0),
            ("print_knobs",),
            ("impose_task", 0, 0, 0, 5, 5, 0),
            ("print_knobs",),
            ("impose_task", 0, 0, 0, 6, 6, 0),
            ("print_knobs",),
        ]
        given = ask(*operations)
        self.assertEqual(given[3:6], [[0]] * 3)
        self.assertEqual(given[6], [
            0, 2, 2, 7, 0, 2, 0, 3, 4, 0, 1, 1, 1000, 9, 8, 0, 1, 0, 6, 7, 0, 1, 9, 0, 0])
        self.assertEqual(given[7], [0])
        self.assertEqual(given[8], [
            0, 2, 2, 7, 0, 2, 1, 1, 1000, 9, 0, 5, 5, 0, 8, 0, 1, 0, 6, 7, 0, 1, 9, 0, 0])
        self.assertEqual(given[10], [
            0, 2, 2, 7, 0, 2, 1, 1, 1000, 9, 0, 6, 6, 0, 8, 0, 1, 0, 6, 7, 0, 1, 9, 0, 0])

    def test_knob(self):
        self.check_sides([0, 1], [-1, 2], lambda knob: ("impose_task", knob, 0, 0, 1, 2, 0))

    def test_setting(self):
        self.check_sides([0, 1], [-1, 2], lambda setting: ("impose_task", 0, setting, 0, 1, 2, 0))
        self.check_sides([0], [-1, 1], lambda setting: ("impose_task", 1, setting, 0, 1, 2, 0))

    def test_task(self):
        self.check_sides([0, 1], [-1, 2], lambda task: ("impose_task", 0, 0, task, 1, 2, 0))

    def test_least(self):
        self.check_sides([1, 7], [-1, 0, 8], lambda least: ("impose_task", 0, 0, 1, least, 7, 0))

    def test_greatest(self):
        self.check_sides([5, 1000], [-1, 0, 4, 1001], lambda greatest: ("impose_task", 0, 0, 1, 5, greatest, 0))

    def test_least_as_great_as_can_be(self):
        self.check_sides([1000], [1001], lambda least: ("impose_task", 0, 0, 1, least, 1000, 0))

    def test_delay(self):
        self.check_sides([0, 9], [-1, 10], lambda delay: ("impose_task", 0, 0, 1, 1, 2, delay))

    def test_delay_of_a_task_whose_finish_is_a_start(self):
        self.check_sides([0], [-1, 1, 9], lambda delay: ("impose_task", 0, 0, 0, 1, 2, delay))


class SetPrice(Sides):
    def test_price_changes_and_nothing_else(self):
        operations = EXAMPLE + [("set_price", 1, 2, 1000), ("set_price", 2, 0, 6), ("print_knobs",)]
        given = ask(*operations)
        self.assertEqual(given[-3:-1], [[0], [0]])
        self.assertEqual(given[-1], [
            0, 3,
            2, 0, 0, 1, 0, 1, 6, 0, 5, 0, 0,
            3, 0, 0, 1, 0, 1, 3, 2, 2, 0, 1, 0, 1, 3, 1, 1000, 0, 0,
            2, 6, 1, 0, 2, 4, 0, 3, 0, 0])

    def test_knob(self):
        self.check_sides([0, 1], [-1, 2], lambda knob: ("set_price", knob, 0, 3))

    def test_setting(self):
        self.check_sides([0, 1], [-1, 2], lambda setting: ("set_price", 0, setting, 3))
        self.check_sides([0], [-1, 1], lambda setting: ("set_price", 1, setting, 3))

    def test_price(self):
        self.check_sides([0, 1000], [-1, 1001], lambda price: ("set_price", 0, 1, price))


class PrintKnobs(unittest.TestCase):
    def test_example(self):
        self.assertEqual(outcome(EXAMPLE, ("print_knobs",)), [
            0, 3,
            2, 0, 0, 1, 0, 1, 6, 0, 5, 0, 0,
            3, 0, 0, 1, 0, 1, 3, 2, 2, 0, 1, 0, 1, 3, 1, 4, 0, 0,
            2, 0, 1, 0, 2, 4, 0, 3, 0, 0])


if __name__ == "__main__":
    unittest.main()
