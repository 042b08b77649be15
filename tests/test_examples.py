"""The rows of the document's example, in both requests, with the whole answers."""

import unittest

from knobplans.desk import answers
from tests.helper import EXAMPLE, ask, write_calls

BEGINNING = list(zip(EXAMPLE, [[0], [0, 0], [0, 1], [0, 2], [0], [0], [0], [0]]))

FIRST_REQUEST = BEGINNING + [
    (("print_plan", [0, 1, -1]), [0, 3, 8, 1, 0, 1, 1, 6, 1, 2, 2, 1, 0, 1, 2, 1]),
    (("possible", [0, 1, -1]), [0, 1]),
    (("possible", [1, 1, 0]), [0, 1]),
    (("possible", [0, 1, 0]), [0, 0]),
    (("price", [0, 1, 0]), [0, 2]),
    (("conflict", [0, 1, 0]), [0, 0, -1, 0]),
    (("conflict", [0, 0, 0]), [0, -1, 0, -1]),
    (("conflict", [1, 1, 0]), [-2]),
    (("cheapest", [-1, -1, -1]), [0, 1, 5, 0, 1, 1, 2, -1, 0, -1, 0, -1, 0]),
    (("check", [-1, -1, -1], [0, 1, 1], [-1, 0, -1, 0, -1, 0]), [0, 1]),
]
SECOND_REQUEST = BEGINNING + [
    (("check", [-1, -1, -1], [0, 1, 1], [-1, 0, -1]), [0, 0, 3, 0, 1, 0]),
    (("cheapest", [-1, 0, -1]), [0, 0, 1, -1, 0, -1]),
    (("set_price", 0, 1, 1), [0]),
    (("extra", 0, 0), [0, 1, 2]),
    (("summary",), [0, 3, 8, 1, 2, 3, 12]),
]


class Examples(unittest.TestCase):
    def check_request(self, rows):
        operations = [operation for operation, answer in rows]
        for given, (operation, answer) in zip(ask(*operations), rows):
            with self.subTest(operation=operation):
                self.assertEqual(given, answer)
        wanted = []
        for operation, answer in rows:
            wanted += [len(answer)] + answer
        self.assertEqual(answers(write_calls(operations)), wanted)

    def test_first_request(self):
        self.check_request(FIRST_REQUEST)

    def test_second_request(self):
        self.check_request(SECOND_REQUEST)


if __name__ == "__main__":
    unittest.main()
