"""The document's points 2 to 7 over random options; points 1 and 8 have files of their own."""

import itertools
import random
import unittest

from tests.helper import Dispatchers, all_choices, cut_plan, outcome, random_options

COUNTS = [(2,), (2, 2), (3, 2), (1, 2, 2), (2, 2, 2), (4, 3)]


def is_possible(start, choice):
    return bool(outcome(start, ("possible", choice))[1])


def extends(choice, part):
    return all(asked in (-1, setting) for setting, asked in zip(choice, part))


def full_choices_in_order(start, counts, given):
    full = [list(choice) for choice in itertools.product(*[range(count) for count in counts])]
    return sorted([choice for choice in full if extends(choice, given)],
                  key=lambda choice: (outcome(start, ("price", choice))[1], choice))


def cheapest(start, counts, given):
    """The choice that is found, or None, and the conflicts."""
    status, found, *rest = outcome(start, ("cheapest", given))
    size = len(counts)
    choice = rest[1:1 + size] if found else None
    counted = rest[1 + size:] if found else rest
    conflicts = [counted[at:at + size] for at in range(1, len(counted), size)]
    assert counted[0] == len(conflicts)
    return choice, conflicts


def random_case(source):
    counts = source.choice(COUNTS)
    start = random_options(source, 5, 7, 2, counts)
    given = [source.choice([-1, -1, source.randrange(count)]) for count in counts]
    return start, counts, given


class Points(unittest.TestCase):
    def test_point_2_what_a_possible_choice_extends_is_possible(self):
        source = random.Random(51)
        verdicts = []
        for number in range(120):
            start, counts, given = random_case(source)
            choices = all_choices(counts)
            possible = {tuple(choice): is_possible(start, choice) for choice in choices}
            verdicts += possible.values()
            for choice in possible:
                for knob, setting in enumerate(choice):
                    part = choice[:knob] + (-1,) + choice[knob + 1:]
                    self.assertLessEqual(possible[choice], possible[part], (start, choice, part))
        self.assertGreater(verdicts.count(False), 300)
        self.assertGreater(verdicts.count(True), 300)

    def test_point_4_cheapest_is_the_first_possible_one(self):
        source = random.Random(52)
        several = 0
        for number in range(200):
            start, counts, given = random_case(source)
            order = full_choices_in_order(start, counts, given)
            possible = [choice for choice in order if is_possible(start, choice)]
            found, conflicts = cheapest(start, counts, given)
            self.assertEqual(found, possible[0] if possible else None)
            before = order[:order.index(found)] if found else order
            for choice in before:
                self.assertTrue(any(extends(choice, conflict) for conflict in conflicts))
            self.assertEqual(len(conflicts), len({tuple(conflict) for conflict in conflicts}))
            self.assertFalse(any(is_possible(start, conflict) for conflict in conflicts))
            several += len(conflicts) > 1
        self.assertGreater(several, 20)

    def test_point_5_check_agrees_with_cheapest(self):
        source = random.Random(53)
        agreed = 0
        for number in range(200):
            start, counts, given = random_case(source)
            found, conflicts = cheapest(start, counts, given)
            numbers = sum(conflicts, [])
            self.assertEqual(outcome(start, ("check", given, found or [], numbers)), [0, 1])
            for claimed in [[]] + full_choices_in_order(start, counts, [-1] * len(counts)):
                if outcome(start, ("check", given, claimed, numbers)) == [0, 1]:
                    agreed += 1
                    self.assertEqual(claimed, found or [])
        self.assertEqual(agreed, 200)

    def test_point_6_some_dispatcher_keeps_the_plan_of_the_cheapest_alone(self):
        source = random.Random(54)
        kept, not_kept = 0, 0
        for number in range(150):
            counts = source.choice([(2,), (2, 2), (3, 2)])
            start = random_options(source, 4, 5, 2, counts)
            given = [source.choice([-1, -1, source.randrange(count)]) for count in counts]
            found, conflicts = cheapest(start, counts, given)
            for choice in full_choices_in_order(start, counts, given):
                plan = cut_plan(outcome(start, ("print_plan", choice)))
                self.assertEqual(Dispatchers(plan).some_keeps_the_plan(), choice == found, (start, choice))
                if choice == found:
                    kept += 1
                    break
                not_kept += 1
        self.assertGreater(kept, 50)
        self.assertGreater(not_kept, 50)

    def test_point_7_some_setting_of_each_knob_has_the_extra_0(self):
        source = random.Random(55)
        found_none = 0
        for number in range(150):
            start, counts, given = random_case(source)
            any_possible = cheapest(start, counts, [-1] * len(counts))[0] is not None
            found_none += not any_possible
            for knob, count in enumerate(counts):
                extras = [outcome(start, ("extra", knob, setting)) for setting in range(count)]
                self.assertEqual([0, 1, 0] in extras, any_possible)
                for extra in extras:
                    self.assertTrue(extra == [0, 0] or extra[2] >= 0)
        self.assertGreater(found_none, 10)

    def test_point_7_prices_have_no_influence_on_what_is_possible(self):
        source = random.Random(56)
        for number in range(60):
            start, counts, given = random_case(source)
            knob = source.randrange(len(counts))
            change = ("set_price", knob, source.randrange(counts[knob]), source.choice([0, 1, 1000]))
            for choice in all_choices(counts):
                for name in ("possible", "conflict"):
                    self.assertEqual(outcome(start + [change], (name, choice)), outcome(start, (name, choice)))


if __name__ == "__main__":
    unittest.main()
