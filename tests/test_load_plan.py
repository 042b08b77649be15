"""load_plan: which plans are taken, and the whole answer of print_plan for them."""

import unittest

from tests.helper import BIG, ask, ask_last, outcome

TASK = [0, 1, 1, 3, 0]
BOUND = [1, 2, 5]


def loaded(count, deadline, tasks, requirements):
    return ask(("load_plan", count, deadline, tasks, requirements))[0]


def printed(count, deadline, tasks, requirements):
    return outcome([("load_plan", count, deadline, tasks, requirements)], ("print_plan", []))


class Beginning(unittest.TestCase):
    def test_one_event_and_no_knobs(self):
        self.assertEqual(ask(("print_plan", []), ("print_knobs",)), [[0, 1, 1, 0, 0], [0, 0]])

    def test_choice_for_no_knobs_is_empty(self):
        self.assertEqual(ask_last(("print_plan", [-1])), [-1])

    def test_nothing_can_be_imposed(self):
        self.assertEqual(
            ask(("impose_requirement", 0, 0, 0, 0, 0), ("impose_task", 0, 0, 0, 1, 1, 0), ("set_price", 0, 0, 0)),
            [[-1], [-1], [-1]])

    def test_event_0_alone_can_be_bound_to_itself(self):
        self.assertEqual(
            ask(("add_knob", [3]), ("impose_requirement", 0, 0, 0, 0, -1), ("print_plan", [0])),
            [[0, 0], [0], [0, 1, 1, 0, 1, 0, 0, -1]])


class Loading(unittest.TestCase):
    def test_answer_has_no_fields(self):
        self.assertEqual(loaded(3, 8, TASK, BOUND), [0])

    def test_plan_is_printed_as_loaded(self):
        self.assertEqual(
            printed(5, 20, [0, 3, 2, 4, 0, 3, 1, 1, 1000, 21], [4, 4, 0, 2, 4, -1000, 4, 2, 1000, 2, 4, -1000]),
            [0, 5, 20,
             2, 0, 3, 2, 4, 0, 3, 1, 1, 1000, 21,
             4, 4, 4, 0, 2, 4, -1000, 4, 2, 1000, 2, 4, -1000])

    def test_plan_is_replaced_and_knobs_go(self):
        self.assertEqual(
            ask(("load_plan", 3, 8, TASK, BOUND), ("add_knob", [1, 2]), ("load_plan", 2, 9, [], []),
                ("print_knobs",), ("print_plan", []), ("add_knob", [4])),
            [[0], [0, 0], [0], [0, 0], [0, 2, 9, 0, 0], [0, 0]])

    def test_imposed_requirements_count_anew_after_loading(self):
        thirty = [("impose_requirement", 0, 0, 0, 0, 0)] * 30
        given = ask(("add_knob", [0]), *thirty, ("load_plan", 1, 1, [], []), ("add_knob", [0]), thirty[0])
        self.assertEqual(given[-3:], [[0], [0, 0], [0]])


class Limits(unittest.TestCase):
    def check_sides(self, taken, refused, load):
        for number in taken:
            with self.subTest(taken=number):
                self.assertEqual(load(number), [0])
        for number in refused + [BIG, -BIG]:
            with self.subTest(refused=number):
                self.assertEqual(load(number), [-1])

    def test_count(self):
        self.check_sides([1, 10], [-1, 0, 11, 24], lambda count: loaded(count, 8, [], []))

    def test_deadline(self):
        self.check_sides([1, 200], [-1, 0, 201, 1000], lambda deadline: loaded(3, deadline, [], []))

    def test_start(self):
        self.check_sides([0, 2], [-1, 3, 1], lambda start: loaded(3, 8, [start, 1, 1, 3, 0], []))

    def test_finish(self):
        self.check_sides([1, 2], [-1, 3, 0], lambda finish: loaded(4, 8, [3, finish, 1, 3, 0], []))

    def test_finish_is_an_event(self):
        self.check_sides([3], [4], lambda finish: loaded(4, 8, [0, finish, 1, 3, 0], []))

    def test_finish_is_not_the_start(self):
        self.assertEqual(loaded(3, 8, [2, 2, 1, 3, 0], []), [-1])

    def test_finish_is_not_event_0(self):
        self.assertEqual(loaded(3, 8, [2, 0, 1, 3, 0], []), [-1])

    def test_least(self):
        self.check_sides([1, 7], [-1, 0, 8], lambda least: loaded(3, 8, [0, 1, least, 7, 0], []))

    def test_greatest(self):
        self.check_sides([5, 1000], [-1, 0, 4, 1001], lambda greatest: loaded(3, 8, [0, 1, 5, greatest, 0], []))

    def test_least_as_great_as_can_be(self):
        self.check_sides([1000], [1001], lambda least: loaded(3, 8, [0, 1, least, 1000, 0], []))

    def test_delay(self):
        self.check_sides([0, 9], [-1, 10], lambda delay: loaded(3, 8, [0, 1, 1, 3, delay], []))

    def test_delay_for_the_greatest_deadline(self):
        self.check_sides([201], [202], lambda delay: loaded(3, 200, [0, 1, 1, 3, delay], []))

    def test_source(self):
        self.check_sides([0, 2], [-1, 3], lambda source: loaded(3, 8, [], [source, 1, 4]))

    def test_target(self):
        self.check_sides([0, 1, 2], [-1, 3], lambda target: loaded(3, 8, [], [1, target, 4]))

    def test_most(self):
        self.check_sides([-1000, 1000], [-1001, 1001], lambda most: loaded(3, 8, [], [1, 2, most]))

    def test_number_of_tasks(self):
        rows = [[0, finish, 1, 3, 0] for finish in range(1, 6)]
        self.assertEqual(loaded(10, 8, sum(rows[:4], []), []), [0])
        self.assertEqual(loaded(10, 8, sum(rows[:5], []), []), [-1])

    def test_number_of_requirements(self):
        self.assertEqual(loaded(3, 8, [], BOUND * 30), [0])
        self.assertEqual(loaded(3, 8, [], BOUND * 31), [-1])
        self.assertEqual(loaded(3, 8, [], BOUND * 66), [-1])

    def test_later_rows_are_looked_at_too(self):
        self.assertEqual(loaded(4, 8, TASK + [0, 2, 1, 3, 0], BOUND + [3, 0, -2]), [0])
        self.assertEqual(loaded(4, 8, TASK + [0, 2, 3, 1, 0], BOUND), [-1])
        self.assertEqual(loaded(4, 8, TASK, BOUND + [3, 4, -2]), [-1])


class Lengths(unittest.TestCase):
    def test_tasks_are_five_numbers_each(self):
        for length in range(0, 11):
            with self.subTest(length=length):
                numbers = (TASK + [0, 2, 1, 3, 0])[:length]
                self.assertEqual(loaded(3, 8, numbers, []), [0] if length in (0, 5, 10) else [-1])

    def test_requirements_are_three_numbers_each(self):
        for length in range(0, 10):
            with self.subTest(length=length):
                numbers = (BOUND * 3)[:length]
                self.assertEqual(loaded(3, 8, [], numbers), [0] if length in (0, 3, 6, 9) else [-1])


class TasksTogether(unittest.TestCase):
    def test_same_finish_is_refused(self):
        self.assertEqual(loaded(4, 8, TASK + [2, 1, 1, 3, 0], []), [-1])
        self.assertEqual(loaded(4, 8, TASK + [0, 2, 1, 3, 0] + [3, 1, 1, 3, 0], []), [-1])

    def test_same_start_is_taken(self):
        self.assertEqual(loaded(4, 8, TASK + [0, 2, 1, 3, 0], []), [0])

    def test_same_task_twice_is_refused(self):
        self.assertEqual(loaded(4, 8, TASK + TASK, []), [-1])

    def test_ring_of_two(self):
        self.assertEqual(loaded(4, 8, [1, 2, 1, 3, 0, 2, 1, 1, 3, 0], []), [-1])

    def test_ring_of_three(self):
        self.assertEqual(loaded(4, 8, [1, 2, 1, 3, 0, 3, 1, 1, 3, 0, 2, 3, 1, 3, 0], []), [-1])

    def test_ring_of_four(self):
        ring = [[1, 2, 1, 3, 0], [2, 3, 1, 3, 0], [3, 4, 1, 3, 0], [4, 1, 1, 3, 0]]
        self.assertEqual(loaded(5, 8, sum(ring, []), []), [-1])
        self.assertEqual(loaded(5, 8, ring[2] + ring[0] + ring[3] + ring[1], []), [-1])

    def test_ring_beside_other_tasks(self):
        ring = [2, 3, 1, 3, 0, 3, 2, 1, 3, 0]
        self.assertEqual(loaded(5, 8, TASK + ring, []), [-1])
        self.assertEqual(loaded(5, 8, ring + TASK, []), [-1])
        self.assertEqual(loaded(5, 8, [2, 4, 1, 3, 0] + ring, []), [-1])

    def test_row_of_four_is_taken(self):
        row = [[0, 2, 1, 3, 0], [2, 3, 1, 3, 0], [3, 4, 1, 3, 0], [4, 1, 1, 3, 0]]
        self.assertEqual(loaded(5, 8, sum(row, []), []), [0])
        self.assertEqual(loaded(5, 8, row[3] + row[1] + row[0] + row[2], []), [0])

    def test_row_of_four_that_does_not_begin_at_event_0(self):
        row = [[5, 2, 1, 3, 0], [2, 3, 1, 3, 0], [3, 4, 1, 3, 0], [4, 1, 1, 3, 0]]
        self.assertEqual(loaded(6, 8, sum(row, []), []), [0])

    def test_delay_at_a_start_is_refused(self):
        following = [1, 2, 1, 3, 4]
        self.assertEqual(loaded(3, 8, [0, 1, 1, 3, 0] + following, []), [0])
        self.assertEqual(loaded(3, 8, [0, 1, 1, 3, 1] + following, []), [-1])
        self.assertEqual(loaded(3, 8, following + [0, 1, 1, 3, 1], []), [-1])
        self.assertEqual(loaded(3, 8, following + [0, 1, 1, 3, -1], []), [-1])


if __name__ == "__main__":
    unittest.main()
