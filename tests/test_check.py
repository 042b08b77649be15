"""check: each flaw of a claim, and which one is reported."""

import random
import unittest

from tests.helper import BIG, CHAIN, CHAIN_CONFLICTS, EXAMPLE, OPEN
from tests.helper import ask, ask_last, ask_plainly, outcome, random_options

IMPOSSIBLE_PLAN = ("load_plan", 2, 5, [], [0, 1, 2, 1, 0, -3])


class Checks(unittest.TestCase):
    def check(self, choice, claimed, conflicts, wanted):
        self.assertEqual(outcome(CHAIN, ("check", choice, claimed, conflicts)), [0] + wanted)


class WithoutFlaw(Checks):
    def test_what_cheapest_returns(self):
        self.check(OPEN, [1, 1, 0], CHAIN_CONFLICTS, [1])
        self.check([2, -1, -1], [2, 1, 0], [-1, 0, 0], [1])
        self.check([2, 1, 1], [2, 1, 1], [], [1])

    def test_none_is_claimed(self):
        self.check([0, -1, 0], [], [0, 0, -1, 0, -1, 0], [1])
        self.check([0, 0, -1], [], [0, 0, -1], [1])

    def test_other_conflicts_than_those_found(self):
        # In another order, twice, full ones, and one that no choice needs.
        self.check(OPEN, [1, 1, 0], [0, -1, 0, -1, 0, 0, 0, 0, -1], [1])
        self.check(OPEN, [1, 1, 0], CHAIN_CONFLICTS * 2, [1])
        self.check(OPEN, [1, 1, 0], [0, 0, 0, 1, 0, 0, 0, 1, 0, 0, 0, 1], [1])
        self.check([2, -1, -1], [2, 1, 0], CHAIN_CONFLICTS, [1])

    def test_plan_that_is_impossible_itself(self):
        start = [IMPOSSIBLE_PLAN, ("add_knob", [1, 2]), ("add_knob", [3])]
        self.assertEqual(outcome(start, ("check", [-1, -1], [], [-1, -1])), [0, 1])


class FirstFlaw(Checks):
    def test_not_full(self):
        self.check(OPEN, [1, 1, -1], CHAIN_CONFLICTS, [0, 1])
        self.check(OPEN, [-1, 1, 0], CHAIN_CONFLICTS, [0, 1])
        self.check(OPEN, OPEN, CHAIN_CONFLICTS, [0, 1])
        self.check([1, 1, -1], [1, 1, -1], [], [0, 1])

    def test_does_not_extend_the_given_one(self):
        self.check([2, -1, -1], [1, 1, 0], CHAIN_CONFLICTS, [0, 1])
        self.check([-1, -1, 1], [1, 1, 0], CHAIN_CONFLICTS, [0, 1])
        self.check([1, 1, 1], [1, 1, 0], CHAIN_CONFLICTS, [0, 1])

    def test_not_possible(self):
        self.check(OPEN, [0, 1, 0], [0, 0, -1, -1, 0, 0], [0, 1])
        self.check([0, 0, 0], [0, 0, 0], [], [0, 1])

    def test_ahead_of_the_others(self):
        # The conflict is possible, and 0 0 0 extends none that is not.
        self.check(OPEN, [0, 1, 0], [1, 1, 0], [0, 1])
        self.check(OPEN, [1, 1, -1], [1, 1, 0], [0, 1])


class SecondFlaw(Checks):
    def test_index(self):
        self.check(OPEN, [1, 1, 0], [0, -1, -1] + CHAIN_CONFLICTS, [0, 2, 0])
        self.check(OPEN, [1, 1, 0], CHAIN_CONFLICTS + [0, -1, -1], [0, 2, 3])
        self.check(OPEN, [1, 1, 0], CHAIN_CONFLICTS[:3] + OPEN + CHAIN_CONFLICTS[3:], [0, 2, 1])

    def test_first_of_several(self):
        self.check(OPEN, [1, 1, 0], [0, 0, -1, 0, -1, -1, -1, 0, 0, -1, 0, -1], [0, 2, 1])

    def test_ahead_of_the_third(self):
        self.check(OPEN, [1, 1, 0], [0, -1, -1], [0, 2, 0])
        self.check(OPEN, [2, 1, 0], [0, 0, -1, 1, 1, 0], [0, 2, 1])

    def test_none_is_claimed(self):
        self.check([0, 0, -1], [], [0, 0, -1, 0, -1, 1], [0, 2, 1])
        self.check(OPEN, [], [1, 1, 0], [0, 2, 0])

    def test_conflict_that_does_not_extend_the_given_choice(self):
        self.check([2, -1, -1], [2, 1, 0], [1, 1, -1, -1, 0, 0], [0, 2, 0])

    def test_index_of_the_last_one_of_64(self):
        self.check(OPEN, [1, 1, 0], CHAIN_CONFLICTS[:3] * 63 + OPEN, [0, 2, 63])


class ThirdFlaw(Checks):
    def test_first_choice_that_extends_none(self):
        self.check(OPEN, [1, 1, 0], [], [0, 3, 0, 0, 0])
        self.check(OPEN, [1, 1, 0], [-1, 0, 0, 0, -1, 0], [0, 3, 0, 0, 1])
        self.check(OPEN, [1, 1, 0], [0, 0, -1, 0, -1, 0], [0, 3, 1, 0, 0])
        self.check(OPEN, [1, 1, 0], [0, 0, -1, -1, 0, 0], [0, 3, 0, 1, 0])

    def test_possible_choice_before_the_claimed_one(self):
        self.check(OPEN, [2, 1, 0], CHAIN_CONFLICTS, [0, 3, 1, 1, 0])
        self.check(OPEN, [1, 0, 1], CHAIN_CONFLICTS, [0, 3, 1, 1, 0])

    def test_none_is_claimed(self):
        self.check(OPEN, [], CHAIN_CONFLICTS, [0, 3, 1, 1, 0])
        self.check(OPEN, [], [], [0, 3, 0, 0, 0])
        self.check([0, -1, 0], [], [0, 0, -1], [0, 3, 0, 1, 0])
        # The last one in order.
        self.check([2, -1, 0], [], [-1, 0, 0], [0, 3, 2, 1, 0])

    def test_choices_that_do_not_extend_the_given_one_do_not_matter(self):
        self.check([1, -1, -1], [1, 1, 0], [], [0, 3, 1, 0, 0])
        self.check([1, 1, -1], [1, 1, 0], [], [1])

    def test_same_price(self):
        start = [("add_knob", [1, 1]), ("add_knob", [1, 1])]
        self.assertEqual(ask_last(*start, ("check", [-1, -1], [0, 0], [])), [0, 1])
        for claimed in ([0, 1], [1, 0], [1, 1]):
            self.assertEqual(ask_last(*start, ("check", [-1, -1], claimed, [])), [0, 0, 3, 0, 0])
        self.assertEqual(ask_last(*start, ("check", [1, -1], [1, 0], [])), [0, 1])

    def test_prices_changed_between_calls(self):
        claim = ("check", OPEN, [0, 1, 1], [-1, 0, -1, 0, -1, 0])
        given = ask(*EXAMPLE, claim, ("set_price", 0, 1, 1), claim)
        self.assertEqual(given[-3:], [[0, 1], [0], [0, 0, 3, 1, 1, 0]])


class Lists(unittest.TestCase):
    def test_claimed_list_that_does_not_fit(self):
        for claimed in ([0], [0, 1], [0, 1, 1, 0], [0, 1, 2], [-2, 1, 1], [BIG, 1, 1], [0, 1, 1] * 60):
            with self.subTest(claimed=claimed):
                self.assertEqual(outcome(EXAMPLE, ("check", OPEN, claimed, [])), [-1])

    def test_conflicts_that_do_not_fit(self):
        for conflicts in ([0], [-1, 0], [-1, 0, -1, 0], [-1, 3, -1], [-1, 0, -2], [0, 0, -BIG], [-1, 0, -1, 0, -1, 2]):
            with self.subTest(conflicts=conflicts):
                self.assertEqual(outcome(EXAMPLE, ("check", OPEN, [0, 1, 1], conflicts)), [-1])
                self.assertEqual(outcome(EXAMPLE, ("check", OPEN, [], conflicts)), [-1])

    def test_list_that_does_not_fit_beside_a_flaw(self):
        self.assertEqual(outcome(EXAMPLE, ("check", OPEN, [0, 0, -1], [-1, 0])), [-1])
        self.assertEqual(outcome(EXAMPLE, ("check", OPEN, OPEN, OPEN + [0, 0, 2])), [-1])

    def test_64_conflicts_and_65(self):
        for length, accepted in ((64, True), (65, False), (133, False)):
            with self.subTest(length=length):
                conflicts = ([-1, 0, -1, 0, -1, 0] * length)[:3 * length]
                answer = outcome(EXAMPLE, ("check", OPEN, [0, 1, 1], conflicts))
                self.assertEqual(answer, [0, 1] if accepted else [-1])

    def test_64_conflicts_and_65_of_one_knob_and_of_six(self):
        for count in (1, 6):
            start = [("load_plan", 2, 5, [], [1, 0, -6])] + [("add_knob", [1])] * count
            for length, wanted in ((64, [0, 1]), (65, [-1]), (66, [-1])):
                with self.subTest(count=count, length=length):
                    question = ("check", [-1] * count, [], [-1] * (count * length))
                    self.assertEqual(outcome(start, question), wanted)

    def test_without_knobs(self):
        self.assertEqual(ask(("check", [], [], [])), [[0, 1]])
        self.assertEqual(ask(IMPOSSIBLE_PLAN, ("check", [], [], [])), [[0], [0, 0, 1]])
        for lists in (([0], [], []), ([-1], [], []), ([], [0], []), ([], [-1], []), ([], [], [0]), ([], [], [-1]),
                      ([], [], [-1] * 64), ([-1], [-1], [-1])):
            with self.subTest(lists=lists):
                self.assertEqual(ask(("check", *lists)), [[-1]])
                self.assertEqual(outcome([IMPOSSIBLE_PLAN], ("check", *lists)), [-1])


class SecondWay(unittest.TestCase):
    def test_random_claims(self):
        source = random.Random(41)
        told = {}
        for number in range(600):
            counts = source.choice([(2,), (2, 2), (3, 2), (1, 2, 2), (2, 2, 2)])
            start = random_options(source, 5, 8, 3, counts)
            claims = [random_claim(source, start, counts) for times in range(3)]
            operations = start[:57] + claims
            given = ask(*operations)
            self.assertEqual(given, ask_plainly(*operations))
            for answer in given[-3:]:
                kind = tuple(answer[:3])
                told[kind] = told.get(kind, 0) + 1
        for kind in ((0, 1), (0, 0, 1), (0, 0, 2), (0, 0, 3)):
            self.assertGreater(told[kind], 100, told)


def random_claim(source, start, counts):
    """What cheapest returns, in most cases with a change."""
    choice = [source.choice([-1, source.randrange(-1, count)]) for count in counts]
    status, found, *rest = ask_plainly(*start, ("cheapest", choice))[-1]
    claimed = rest[1:1 + len(counts)] if found else []
    conflicts = rest[2 + len(counts):] if found else rest[1:]
    change = source.randrange(5)
    if change == 0:
        claimed = [source.randrange(-1, count) for count in counts]
    if change == 1:
        conflicts = conflicts + [source.randrange(-1, count) for count in counts]
    if change == 2:
        conflicts = conflicts[len(counts):]
    if change == 3:
        claimed = [source.randrange(count) for count in counts] if source.randrange(2) else []
    return "check", choice, claimed, conflicts


if __name__ == "__main__":
    unittest.main()
