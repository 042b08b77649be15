"""Point 8: operations that fail change nothing, nor do operations that only return something (5 to 13)."""

import itertools
import unittest

from tests.helper import BIG, CHAIN, CHAIN_CONFLICTS, EXAMPLE, OPEN, REFUSED_QUESTIONS, ask

LOOKS = [("print_plan", list(choice)) for choice in ([-1, -1, -1], [0, 0, 0], [1, 1, 1], [0, -1, 0], [-1, 2, -1])]
LOOKS.append(("print_knobs",))

TASK = [0, 1, 1, 3, 0]

REFUSED = [
    ("load_plan", 0, 8, [], []),
    ("load_plan", 11, 8, [], []),
    ("load_plan", 3, 0, [], []),
    ("load_plan", 3, 201, [], []),
    ("load_plan", 3, 7, TASK[:4], []),
    ("load_plan", 3, 7, TASK, [1, 2]),
    ("load_plan", 3, 7, TASK, [1, 3, 0]),
    ("load_plan", 3, 7, TASK, [1, 2, 1001]),
    ("load_plan", 3, 7, TASK + TASK, []),
    ("load_plan", 3, 7, [1, 2, 1, 3, 0, 2, 1, 1, 3, 0], []),
    ("load_plan", 3, 7, [0, 1, 1, 3, 1, 1, 2, 1, 3, 0], []),
    ("load_plan", BIG, -BIG, [BIG] * 200, [-BIG] * 200),
    ("add_knob", []),
    ("add_knob", [1] * 6),
    ("add_knob", [1] * 5),
    ("add_knob", [1, 1001]),
    ("add_knob", [-1]),
    ("impose_requirement", 3, 0, 0, 1, 2),
    ("impose_requirement", 0, 2, 0, 1, 2),
    ("impose_requirement", 0, 0, 3, 1, 2),
    ("impose_requirement", 0, 0, 0, -1, 2),
    ("impose_requirement", 0, 0, 0, 1, 1001),
    ("impose_task", -1, 0, 0, 1, 2, 0),
    ("impose_task", 0, -1, 0, 1, 2, 0),
    ("impose_task", 0, 0, 1, 1, 2, 0),
    ("impose_task", 0, 0, -1, 1, 2, 0),
    ("impose_task", 0, 0, 0, 0, 2, 0),
    ("impose_task", 0, 0, 0, 3, 2, 0),
    ("impose_task", 0, 0, 0, 1, 1001, 0),
    ("impose_task", 0, 0, 0, 1, 2, 10),
    ("set_price", 0, 2, 5),
    ("set_price", 3, 0, 5),
    ("set_price", 0, 0, 1001),
    ("set_price", 0, 0, -1),
    ("print_plan", []),
    ("print_plan", [0, 0]),
    ("print_plan", [0, 0, 0, 0]),
    ("print_plan", [0, 3, 0]),
    ("print_plan", [0, -2, 0]),
] + REFUSED_QUESTIONS

# What the calls 5 to 13 answer behind CHAIN.
QUESTIONS = [
    (("print_plan", [0, 1, -1]), [0, 4, 10, 0, 4, 2, 1, 0, 3, 2, 0, 1, 0, -6, 2, 1, -2]),
    (("price", [0, 1, -1]), [0, 3]),
    (("possible", [1, 1, 0]), [0, 1]),
    (("possible", [0, 1, 0]), [0, 0]),
    (("conflict", [0, 1, 0]), [0, 0, -1, 0]),
    (("conflict", [1, 1, 0]), [-2]),
    (("cheapest", OPEN), [0, 1, 5, 1, 1, 0, 3] + CHAIN_CONFLICTS),
    (("cheapest", [0, 0, -1]), [0, 0, 1, 0, 0, -1]),
    (("check", OPEN, [1, 1, 0], CHAIN_CONFLICTS), [0, 1]),
    (("check", OPEN, [0, 1, 0], CHAIN_CONFLICTS), [0, 0, 1]),
    (("check", OPEN, [1, 1, 0], OPEN), [0, 0, 2, 0]),
    (("check", OPEN, [], CHAIN_CONFLICTS), [0, 0, 3, 1, 1, 0]),
    (("extra", 0, 0), [0, 1, 2]),
    (("summary",), [0, 4, 10, 0, 2, 3, 12]),
]


class Refused(unittest.TestCase):
    def test_each_refused_call_changes_nothing(self):
        for refused in REFUSED:
            with self.subTest(refused=refused):
                given = ask(*EXAMPLE, *LOOKS, refused, *LOOKS)
                before = given[len(EXAMPLE):len(EXAMPLE) + len(LOOKS)]
                self.assertEqual(given[len(EXAMPLE) + len(LOOKS)], [-1])
                self.assertEqual(given[-len(LOOKS):], before)

    def test_what_is_done_afterwards_is_as_if_it_had_not_been_called(self):
        after = [("add_knob", [1, 2]), ("impose_task", 3, 1, 0, 1, 7, 3), ("impose_requirement", 3, 1, 0, 1, 2),
                 ("print_plan", [0, 0, 0, 1]), ("print_knobs",)]
        plain = ask(*EXAMPLE, *after)[-len(after):]
        for refused in REFUSED:
            with self.subTest(refused=refused):
                self.assertEqual(ask(*EXAMPLE, refused, *after)[-len(after):], plain)

    def test_requirements_beyond_the_limit(self):
        full = [("load_plan", 2, 8, [], []), ("add_knob", [1, 2])] + [("impose_requirement", 0, 0, 0, 1, 2)] * 30
        looks = [("print_plan", [0]), ("print_plan", [1]), ("print_knobs",)]
        given = ask(*full, *looks, ("impose_requirement", 0, 1, 0, 1, 2), *looks)
        self.assertEqual(given[-4], [-1])
        self.assertEqual(given[-3:], given[-7:-4])

    def test_knobs_beyond_the_limit(self):
        looks = [("print_plan", [0] * 6), ("print_knobs",)]
        given = ask(*[("add_knob", [3])] * 6, *looks, ("add_knob", [3]), *looks)
        self.assertEqual(given[-3], [-1])
        self.assertEqual(given[-2:], given[-5:-3])

    def test_at_the_beginning(self):
        looks = [("print_plan", []), ("print_knobs",)]
        for refused in REFUSED:
            if refused[0] in ("load_plan", "impose_requirement", "impose_task", "set_price"):
                with self.subTest(refused=refused):
                    self.assertEqual(ask(refused, *looks), [[-1], [0, 1, 1, 0, 0], [0, 0]])


class OnlyReturning(unittest.TestCase):
    def test_looking_in_any_order_changes_nothing(self):
        plain = {str(look): ask(*EXAMPLE, look)[-1] for look in LOOKS}
        for looks in itertools.permutations(LOOKS, 3):
            given = ask(*EXAMPLE, *looks, *looks)
            wanted = [plain[str(look)] for look in looks]
            self.assertEqual(given[len(EXAMPLE):], wanted + wanted)

    def test_each_of_the_calls_5_to_13(self):
        for question, answer in QUESTIONS:
            with self.subTest(question=question):
                given = ask(*CHAIN, *LOOKS, question, *LOOKS, question, *LOOKS)
                looks = given[len(CHAIN):len(CHAIN) + len(LOOKS)]
                self.assertEqual(given[len(CHAIN):], looks + [answer] + looks + [answer] + looks)

    def test_each_question_behind_each_other_one(self):
        for (first, first_answer), (second, second_answer) in itertools.permutations(QUESTIONS, 2):
            with self.subTest(first=first, second=second):
                given = ask(*CHAIN, first, second, first)
                self.assertEqual(given[len(CHAIN):], [first_answer, second_answer, first_answer])

    def test_each_question_behind_each_refusal(self):
        refusals = [refused for refused in REFUSED if ask(*CHAIN, refused)[-1] == [-1]]
        self.assertGreater(len(refusals), 50)
        for refused in refusals:
            for question, answer in QUESTIONS:
                with self.subTest(refused=refused, question=question):
                    self.assertEqual(ask(*CHAIN, refused, question)[-2:], [[-1], answer])

    def test_changes_behind_questions_are_as_if_nothing_had_been_asked(self):
        changes = [("set_price", 0, 1, 9), ("impose_requirement", 1, 1, 2, 1, -4), ("add_knob", [1, 2]),
                   ("print_plan", [1, 1, 0, 1]), ("print_knobs",), ("cheapest", [-1] * 4)]
        plain = ask(*CHAIN, *changes)[-len(changes):]
        for question, answer in QUESTIONS:
            with self.subTest(question=question):
                self.assertEqual(ask(*CHAIN, question, *changes)[-len(changes):], plain)


if __name__ == "__main__":
    unittest.main()
