"""Derived requirements: which plans are accepted. Each plan is asked for as one without knobs."""

import random
import unittest

from tests.helper import Dispatchers, PlainTable, accepted_plainly, ask, ask_last, cut_plan, outcome, random_plan


def is_accepted(load):
    status, possible = outcome([load], ("possible", []))
    assert status == 0
    return bool(possible)


def plan_of(load):
    return cut_plan(outcome([load], ("print_plan", [])))


# The condition; a plan that is refused by it alone; a plan next to it that is accepted.
BY_ONE_CONDITION = [
    # A requirement: event 1 by 2, and not before 3 or 2.
    (1, ("load_plan", 2, 5, [], [0, 1, 2, 1, 0, -3]), ("load_plan", 2, 5, [], [0, 1, 2, 1, 0, -2])),
    # An event against itself.
    (1, ("load_plan", 2, 5, [], [1, 1, -1]), ("load_plan", 2, 5, [], [1, 1, 0])),
    # The deadline.
    (1, ("load_plan", 2, 5, [], [1, 0, -6]), ("load_plan", 2, 5, [], [1, 0, -5])),
    # Nothing happens ahead of moment 0.
    (1, ("load_plan", 2, 5, [], [0, 1, -1]), ("load_plan", 2, 5, [], [0, 1, 0])),
    # The longest duration against the deadline, and against a requirement.
    (1, ("load_plan", 2, 5, [0, 1, 1, 6, 0], []), ("load_plan", 2, 5, [0, 1, 1, 5, 0], [])),
    (1, ("load_plan", 2, 5, [0, 1, 1, 3, 0], [0, 1, 2]), ("load_plan", 2, 5, [0, 1, 1, 3, 0], [0, 1, 3])),
    # Event 2 not after the finish and not before 2 or 1; the finish may come at 1.
    (2, ("load_plan", 3, 5, [0, 1, 1, 2, 0], [1, 2, 0, 2, 0, -2]),
     ("load_plan", 3, 5, [0, 1, 1, 2, 0], [1, 2, 0, 2, 0, -1])),
    # One finish no later than another one, or one moment at most; nature chooses both.
    (2, ("load_plan", 3, 5, [0, 1, 1, 2, 3, 0, 2, 1, 2, 0], [2, 1, 0]),
     ("load_plan", 3, 5, [0, 1, 1, 2, 3, 0, 2, 1, 2, 0], [2, 1, 1])),
    # The least duration: the finish not before 2 or 1.
    (3, ("load_plan", 2, 5, [0, 1, 1, 2, 0], [1, 0, -2]), ("load_plan", 2, 5, [0, 1, 1, 2, 0], [1, 0, -1])),
    # Event 2 at the finish or one moment later, which is seen two moments later or one.
    (3, ("load_plan", 3, 8, [0, 1, 1, 3, 2], [2, 1, 0, 1, 2, 1]),
     ("load_plan", 3, 8, [0, 1, 1, 3, 1], [2, 1, 0, 1, 2, 1])),
    # A task that is to finish by the finish of another one, or a moment later.
    (3, ("load_plan", 4, 5, [0, 3, 1, 2, 0, 2, 1, 1, 2, 0], [3, 1, 0]),
     ("load_plan", 4, 5, [0, 3, 1, 2, 0, 2, 1, 1, 2, 0], [3, 1, 1])),
    # Event 3, up to 3 after event 2, comes by 3 after event 1: event 2 comes no later than event 1, which may come
    # at 1, and not before 2 or 1.
    (4, ("load_plan", 4, 9, [0, 1, 1, 5, 0, 2, 3, 1, 3, 0], [1, 3, 3, 2, 0, -2]),
     ("load_plan", 4, 9, [0, 1, 1, 5, 0, 2, 3, 1, 3, 0], [1, 3, 3, 2, 0, -1])),
]

# The start of the second task waits for the finish of the first one, which comes by 5.
# The second task has to be finished by so many moments; it takes up to 3.
RING_OF_A_WAIT = ("load_plan", 4, 9, [0, 1, 2, 5, 0, 2, 3, 1, 3, 0], [2, 1, 0, 0, 3, 7])
NO_RING_OF_A_WAIT = ("load_plan", 4, 9, [0, 1, 2, 5, 0, 2, 3, 1, 3, 0], [2, 1, 0, 0, 3, 8])


class OneCondition(unittest.TestCase):
    def test_refused_by_it_alone(self):
        for condition, refused, accepted in BY_ONE_CONDITION:
            with self.subTest(condition=condition, refused=refused):
                self.assertFalse(is_accepted(refused))
                self.assertTrue(is_accepted(accepted))

    def test_the_conditions_are_named_rightly(self):
        for condition, refused, accepted in BY_ONE_CONDITION:
            with self.subTest(condition=condition, refused=refused):
                self.assertFalse(accepted_plainly(plan_of(refused)))
                self.assertTrue(accepted_plainly(plan_of(refused), (condition,)))
                self.assertTrue(accepted_plainly(plan_of(accepted)))

    def test_the_plans_can_be_kept_or_not(self):
        for condition, refused, accepted in BY_ONE_CONDITION:
            with self.subTest(condition=condition, refused=refused):
                self.assertFalse(Dispatchers(plan_of(refused)).some_keeps_the_plan())
                self.assertTrue(Dispatchers(plan_of(accepted)).some_keeps_the_plan())

    def test_conditions_leave_out_a_task_s_own_finish(self):
        # Condition 3 would bind the finish by x + 0, or u(k, a) by x - y; condition 4 would make w(c, a) smaller.
        for delay in (0, 1, 2, 9):
            with self.subTest(delay=delay):
                self.assertTrue(is_accepted(("load_plan", 2, 8, [0, 1, 1, 3, delay], [])))

    def test_condition_4_takes_the_greater_one(self):
        # Event 2 at the finish itself: a wait for the longest duration alone would refuse it.
        self.assertTrue(is_accepted(("load_plan", 3, 8, [0, 1, 1, 3, 0], [2, 1, 0, 1, 2, 0])))
        self.assertTrue(is_accepted(("load_plan", 3, 8, [0, 1, 1, 4, 2], [2, 1, 0, 1, 2, 2])))


class Delays(unittest.TestCase):
    def test_event_behind_a_finish(self):
        # Durations differ by 2: two moments later it needs no report at all.
        for delay in (0, 1, 2, 3, 7, 8, 9):
            for most in (0, 1, 2, 3):
                with self.subTest(delay=delay, most=most):
                    load = ("load_plan", 3, 8, [0, 1, 1, 3, delay], [2, 1, 0, 1, 2, most])
                    self.assertEqual(is_accepted(load), most >= min(delay, 2))
                    self.assertEqual(accepted_plainly(plan_of(load)), most >= min(delay, 2))

    def test_delay_beyond_the_deadline_and_one_more(self):
        self.assertEqual(ask_last(("load_plan", 3, 8, [0, 1, 1, 3, 9], [])), [0])
        self.assertEqual(ask_last(("load_plan", 3, 8, [0, 1, 1, 3, 10], [])), [-1])

    def test_delay_of_a_long_task(self):
        # The report comes at the deadline at the soonest, or one moment behind it.
        for delay, possible in ((0, 1), (1, 1), (8, 1), (9, 0), (199, 0), (200, 0), (201, 0)):
            with self.subTest(delay=delay):
                load = ("load_plan", 3, 200, [0, 1, 1, 192, delay], [2, 1, 0, 1, 2, 8])
                self.assertEqual(ask(load, ("possible", [])), [[0], [0, possible]])


class Rings(unittest.TestCase):
    def test_entries_that_would_become_smaller_and_smaller(self):
        for deadline in (1, 8, 200):
            for requirements in ([1, 2, -1, 2, 1, 0], [1, 2, 999, 2, 1, -1000], [2, 2, -1], [1, 2, 5, 2, 0, 3, 0, 1, -9]):
                with self.subTest(deadline=deadline, requirements=requirements):
                    self.assertFalse(is_accepted(("load_plan", 3, deadline, [], requirements)))

    def test_ring_of_sum_0_is_none(self):
        self.assertTrue(is_accepted(("load_plan", 3, 8, [], [1, 2, -1, 2, 1, 1])))
        self.assertFalse(is_accepted(("load_plan", 3, 8, [], [1, 2, -1, 2, 1, 0])))

    def test_ring_over_ten_events(self):
        steps = [[event, event + 1, 7] for event in range(9)]
        for last, accepted in ((-63, True), (-64, False)):
            load = ("load_plan", 10, 200, [], sum(steps, []) + [9, 0, last])
            self.assertEqual(is_accepted(load), accepted)

    def test_entries_that_tasks_make_smaller(self):
        # No ring of the requirements and durations themselves: it comes of what the tasks derive.
        for deadline in (8, 200):
            load = ("load_plan", 3, deadline, [0, 1, 1, 3, 2], [2, 1, 0, 1, 2, 1])
            self.assertFalse(is_accepted(load))
            self.assertTrue(is_accepted(("load_plan", 3, deadline, [0, 1, 1, 3, 1], [2, 1, 0, 1, 2, 1])))

    def test_ring_through_a_wait(self):
        self.assertFalse(is_accepted(RING_OF_A_WAIT))
        self.assertTrue(is_accepted(NO_RING_OF_A_WAIT))
        self.assertFalse(Dispatchers(plan_of(RING_OF_A_WAIT)).some_keeps_the_plan())
        self.assertTrue(Dispatchers(plan_of(NO_RING_OF_A_WAIT)).some_keeps_the_plan())

    def test_that_ring_is_not_one_of_the_entries_w_from_the_beginning(self):
        table = PlainTable(plan_of(RING_OF_A_WAIT), ())
        table.condition_1()
        for times in range(5):
            table.condition_2()
        self.assertTrue(table.has_ring())
        table.u.clear()
        self.assertFalse(table.has_ring())

    def test_tasks_in_a_row(self):
        row = [0, 1, 1, 2, 0, 1, 2, 1, 2, 0, 2, 3, 1, 2, 0, 3, 4, 1, 2, 0]
        self.assertTrue(is_accepted(("load_plan", 5, 8, row, [])))
        self.assertFalse(is_accepted(("load_plan", 5, 7, row, [])))
        self.assertTrue(is_accepted(("load_plan", 5, 8, row, [4, 0, -4])))
        self.assertFalse(is_accepted(("load_plan", 5, 8, row, [4, 0, -5])))


class SecondWays(unittest.TestCase):
    def check_both_kinds(self, verdicts, least):
        self.assertGreater(verdicts.count(True), least)
        self.assertGreater(verdicts.count(False), least)

    def test_small_plans_against_the_plain_way(self):
        source = random.Random(11)
        verdicts = []
        for number in range(1500):
            load = random_plan(source, 6, source.randint(4, 12), 3)
            verdicts.append(accepted_plainly(plan_of(load)))
            self.assertEqual(is_accepted(load), verdicts[-1], load)
        self.check_both_kinds(verdicts, 400)

    def test_small_plans_against_all_dispatchers(self):
        source = random.Random(12)
        verdicts = []
        for number in range(600):
            load = random_plan(source, 5, source.randint(3, 6), 2)
            verdicts.append(Dispatchers(plan_of(load)).some_keeps_the_plan())
            self.assertEqual(is_accepted(load), verdicts[-1], load)
        self.check_both_kinds(verdicts, 150)

    def test_large_plans_against_the_plain_way(self):
        source = random.Random(13)
        verdicts = []
        for number in range(120):
            load = large_plan(source)
            verdicts.append(accepted_plainly(plan_of(load)))
            self.assertEqual(is_accepted(load), verdicts[-1], load)
        self.check_both_kinds(verdicts, 30)


def large_plan(source):
    """Ten events, the deadline 200, four tasks, up to thirty requirements, most of them kept by one course of events."""
    while True:
        moments = [0] + [source.randint(0, 150) for event in range(9)]
        tasks = []
        for number in range(4):
            start, finish = source.randrange(10), source.randrange(10)
            least = max(1, moments[finish] - moments[start] - source.randint(0, 15))
            tasks += [start, finish, least, least + source.randint(0, 25), source.choice([0, 0, 1, 5, 20, 200, 201])]
        requirements = []
        for number in range(source.randint(5, 30)):
            first, second = source.randrange(10), source.randrange(10)
            requirements += [first, second, moments[second] - moments[first] + source.randint(0, 40)]
        load = ("load_plan", 10, 200, tasks, requirements)
        if ask(load) == [[0]]:
            return load


if __name__ == "__main__":
    unittest.main()
