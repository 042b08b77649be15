"""cheapest and extra: the order of the full choices, the conflicts on the way, and what a setting costs more."""

import random
import unittest

from tests.helper import CHAIN, CHAIN_CONFLICTS, CHAIN_COUNTS, EXAMPLE, OPEN
from tests.helper import ask, ask_last, ask_plainly, outcome, random_options

IMPOSSIBLE_PLAN = ("load_plan", 2, 5, [], [0, 1, 2, 1, 0, -3])


class Cheapest(unittest.TestCase):
    def test_example(self):
        self.assertEqual(outcome(EXAMPLE, ("cheapest", OPEN)), [0, 1, 5, 0, 1, 1, 2, -1, 0, -1, 0, -1, 0])
        self.assertEqual(outcome(EXAMPLE, ("cheapest", [-1, 0, -1])), [0, 0, 1, -1, 0, -1])
        self.assertEqual(outcome(EXAMPLE, ("cheapest", [-1, 2, -1])), [0, 1, 7, 0, 2, 1, 1, 0, -1, 0])
        self.assertEqual(outcome(EXAMPLE, ("cheapest", [1, 1, -1])), [0, 1, 7, 1, 1, 0, 0])
        self.assertEqual(outcome(EXAMPLE, ("cheapest", [0, -1, 0])), [0, 0, 2, -1, 0, -1, 0, -1, 0])

    def test_conflicts_stand_in_the_order_in_which_they_were_found(self):
        # 0 0 0 at 0: knobs 0 and 1 are too much. 1 0 0 at 2: knobs 1 and 2. 0 1 0 at 3: knobs 0 and 2.
        # 0 0 1 at 4 is passed by. 1 1 0 at 5 is possible, and comes before 2 0 0 at 5.
        self.assertEqual(outcome(CHAIN, ("cheapest", OPEN)), [0, 1, 5, 1, 1, 0, 3] + CHAIN_CONFLICTS)

    def test_choice_that_is_extended(self):
        self.assertEqual(outcome(CHAIN, ("cheapest", [2, -1, -1])), [0, 1, 8, 2, 1, 0, 1, -1, 0, 0])
        self.assertEqual(outcome(CHAIN, ("cheapest", [-1, -1, 1])), [0, 1, 6, 1, 0, 1, 1, 0, 0, -1])
        self.assertEqual(outcome(CHAIN, ("cheapest", [-1, 0, 0])), [0, 0, 2, 0, 0, -1, -1, 0, 0])

    def test_none_is_possible(self):
        self.assertEqual(outcome(CHAIN, ("cheapest", [0, -1, 0])), [0, 0, 2, 0, 0, -1, 0, -1, 0])
        # 0 0 1 extends the conflict of 0 0 0.
        self.assertEqual(outcome(CHAIN, ("cheapest", [0, 0, -1])), [0, 0, 1, 0, 0, -1])

    def test_full_choice_is_given(self):
        self.assertEqual(outcome(CHAIN, ("cheapest", [2, 1, 1])), [0, 1, 12, 2, 1, 1, 0])
        self.assertEqual(outcome(CHAIN, ("cheapest", [2, 0, 0])), [0, 0, 1, -1, 0, 0])

    def test_plan_that_is_impossible_itself(self):
        start = [IMPOSSIBLE_PLAN, ("add_knob", [1, 2]), ("add_knob", [3])]
        for choice in ([-1, -1], [0, -1], [1, 0]):
            self.assertEqual(outcome(start, ("cheapest", choice)), [0, 0, 1, -1, -1])

    def test_without_knobs(self):
        self.assertEqual(ask(("cheapest", [])), [[0, 1, 0, 0]])
        self.assertEqual(ask(IMPOSSIBLE_PLAN, ("cheapest", [])), [[0], [0, 0, 1]])

    def test_knobs_with_one_setting_alone(self):
        knobs = [("add_knob", [7]), ("add_knob", [1000]), ("add_knob", [0])]
        self.assertEqual(ask_last(*knobs, ("cheapest", OPEN)), [0, 1, 1007, 0, 0, 0, 0])
        late = ("impose_requirement", 1, 0, 0, 0, -1)
        self.assertEqual(ask_last(*knobs, late, ("cheapest", OPEN)), [0, 0, 1, -1, 0, -1])

    def test_prices_changed_between_calls(self):
        changes = [("set_price", 0, 1, 1000), ("set_price", 1, 1, 0)]
        given = ask(*CHAIN, ("cheapest", OPEN), changes[0], ("cheapest", OPEN), changes[1], ("cheapest", OPEN))
        self.assertEqual(given[len(CHAIN):], [
            [0, 1, 5, 1, 1, 0, 3, 0, 0, -1, -1, 0, 0, 0, -1, 0],
            [0],
            # 0 0 0, 0 1 0 at 3, 0 0 1 at 4, 2 0 0 at 5, 0 1 1 at 7.
            [0, 1, 7, 0, 1, 1, 3, 0, 0, -1, 0, -1, 0, -1, 0, 0],
            [0],
            # 0 0 0 and 0 1 0 at 0, 0 0 1 and 0 1 1 at 4.
            [0, 1, 4, 0, 1, 1, 2, 0, 0, -1, 0, -1, 0],
        ])


class Order(unittest.TestCase):
    def order_of(self, prices, given):
        """The plan is impossible, so each full choice is a conflict; the first one that extends none is reported."""
        start = [IMPOSSIBLE_PLAN] + [("add_knob", row) for row in prices]
        order = []
        while True:
            answer = outcome(start, ("check", given, [], sum(order, [])))
            if answer == [0, 1]:
                return order
            self.assertEqual(answer[:3], [0, 0, 3])
            order.append(answer[3:])

    def test_by_prices_then_by_the_first_knob_that_differs(self):
        self.assertEqual(self.order_of([[1, 0], [0, 1]], [-1, -1]), [[1, 0], [0, 0], [1, 1], [0, 1]])
        self.assertEqual(self.order_of([[1, 2], [2, 1]], [-1, -1]), [[0, 1], [0, 0], [1, 1], [1, 0]])
        self.assertEqual(
            self.order_of([[5, 5], [5, 5], [5, 5]], OPEN),
            [[0, 0, 0], [0, 0, 1], [0, 1, 0], [0, 1, 1], [1, 0, 0], [1, 0, 1], [1, 1, 0], [1, 1, 1]])
        self.assertEqual(
            self.order_of([[3, 1, 2, 1, 0]], [-1]), [[4], [1], [3], [2], [0]])

    def test_those_that_extend_the_given_one(self):
        self.assertEqual(self.order_of([[1, 0], [4], [0, 1, 1]], [-1, 0, 2]), [[1, 0, 2], [0, 0, 2]])
        self.assertEqual(self.order_of([[1, 0], [4], [0, 1, 1]], [0, -1, -1]), [[0, 0, 0], [0, 0, 1], [0, 0, 2]])
        self.assertEqual(self.order_of([[1, 0], [4], [0, 1, 1]], [1, 0, 0]), [[1, 0, 0]])

    def test_same_price_in_the_search(self):
        for prices, found in (([[1, 1], [1, 1]], [0, 0]), ([[1, 0], [0, 1]], [1, 0]), ([[2, 2], [3, 1]], [0, 1])):
            start = [("add_knob", row) for row in prices]
            price = sum(row[setting] for row, setting in zip(prices, found))
            self.assertEqual(ask_last(*start, ("cheapest", [-1, -1])), [0, 1, price] + found + [0])


class Extra(unittest.TestCase):
    def check_extras(self, start, extras):
        for knob, row in enumerate(extras):
            for setting, wanted in enumerate(row):
                with self.subTest(knob=knob, setting=setting):
                    answer = [0, 0] if wanted is None else [0, 1, wanted]
                    self.assertEqual(outcome(start, ("extra", knob, setting)), answer)

    def test_example(self):
        # The cheapest is 0 1 1 at 5; 1 1 0 costs 7, 0 2 1 costs 7.
        self.check_extras(EXAMPLE, [[0, 2], [None, 0, 2], [2, 0]])

    def test_example_with_a_cheaper_machine(self):
        # The cheapest is 1 1 0 at 3; 0 1 1 costs 5, 1 2 0 costs 5.
        self.check_extras(EXAMPLE + [("set_price", 0, 1, 1)], [[2, 0], [None, 0, 2], [0, 2]])

    def test_chain(self):
        # The cheapest is 1 1 0 at 5; 0 1 1 costs 7, 2 1 0 costs 8, 1 0 1 costs 6.
        self.check_extras(CHAIN, [[2, 0, 3], [1, 0], [0, 1]])

    def test_no_choice_is_possible(self):
        start = [IMPOSSIBLE_PLAN, ("add_knob", [1, 2]), ("add_knob", [3])]
        self.check_extras(start, [[None, None], [None]])

    def test_setting_that_is_impossible_by_itself(self):
        start = [("load_plan", 2, 5, [], []), ("add_knob", [0, 9]), ("impose_requirement", 0, 0, 1, 0, -6)]
        self.check_extras(start, [[None, 0]])

    def test_knobs_with_one_setting_alone(self):
        self.check_extras([("add_knob", [7]), ("add_knob", [1000])], [[0], [0]])

    def test_prices_changed_between_calls(self):
        given = ask(*EXAMPLE, ("extra", 0, 1), ("set_price", 0, 1, 1000), ("extra", 0, 1), ("set_price", 0, 1, 0),
                    ("extra", 0, 0))
        self.assertEqual(given[len(EXAMPLE):], [[0, 1, 2], [0], [0, 1, 997], [0], [0, 1, 3]])


class SecondWay(unittest.TestCase):
    def test_random_options(self):
        source = random.Random(31)
        kinds = {}
        for number in range(250):
            counts = source.choice([(1,), (2, 2), (3, 2, 2), (1, 2, 2), (5, 2), (2, 2, 2, 2)])
            start = random_options(source, 5, 8, 3, counts)
            knob = source.randrange(len(counts))
            questions = [
                ("cheapest", [-1] * len(counts)),
                ("cheapest", [source.randrange(-1, count) for count in counts]),
                ("extra", knob, source.randrange(counts[knob])),
            ]
            operations = start[:57] + questions
            given = ask(*operations)
            self.assertEqual(given, ask_plainly(*operations))
            kind = given[-3][1], given[-1][1]
            kinds[kind] = kinds.get(kind, 0) + 1
        for kind in ((0, 0), (1, 0), (1, 1)):
            self.assertGreater(kinds[kind], 20, kinds)


class ChainSums(unittest.TestCase):
    def test_all_given_choices(self):
        for first in range(-1, CHAIN_COUNTS[0]):
            for second in range(-1, CHAIN_COUNTS[1]):
                for third in range(-1, CHAIN_COUNTS[2]):
                    operations = CHAIN + [("cheapest", [first, second, third])]
                    self.assertEqual(ask(*operations), ask_plainly(*operations))


if __name__ == "__main__":
    unittest.main()
