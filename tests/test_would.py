"""would."""

import unittest

from tests.helper import LARGEST, ask, ask_behind, whole_state
from tests.test_kind import AS_TOLD, FIVE, NOT_AS_TOLD

TWO = [("begin", 4), ("kind", [10, 6, 1]), ("kind", [12, 6, 6])]


class Would(unittest.TestCase):
    def test_ordinary(self):
        found = ask_behind(TWO, ("would", [11, 7]), ("would", [3]), ("would", [20, 20, 20, 20, 20]))
        self.assertEqual(found, [[40, 1, 1, 2], [34, 2, 2, 0], [80, 0, 0, 4]])

    def test_of_alike_ones_those_there_come_first(self):
        found = ask_behind(TWO, ("would", [10, 6]), ("would", [12, 12]))
        self.assertEqual(found, [[38, 2, 1, 1], [46, 1, 1, 2]])

    def test_the_first_kind(self):
        found = ask(("begin", 2), ("would", [5, 4, 3]), ("would", [5]), ("best",))
        self.assertEqual(found, [[0], [9, 2], [5, 1], [0]])

    def test_no_places(self):
        self.assertEqual(ask(("begin", 0), ("kind", [4]), ("would", [5]))[-1], [0, 0, 0])

    def test_pieces_worth_nothing_are_laid(self):
        self.assertEqual(ask(("begin", 3), ("kind", [4]), ("would", [0, 0, 0]))[-1], [4, 1, 2])

    def test_a_fifth(self):
        found = ask_behind(FIVE[:-1], ("would", [10, 1]), ("kind", [10, 1]), ("best",))
        self.assertEqual(found, [[159, 2, 1, 2, 1, 2], [4], [159, 2, 1, 2, 1, 2]])

    def test_a_sixth_is_too_many(self):
        self.assertEqual(ask_behind(FIVE, ("would", [1]), ("would", [1000] * 8)), [[-28], [-28]])

    def test_as_told(self):
        for worths in AS_TOLD:
            with self.subTest(worths=worths):
                found = ask(("begin", 20), ("would", worths), ("best",))
                self.assertEqual(found, [[0], [sum(worths), len(worths)], [0]])

    def test_not_as_told(self):
        for worths in NOT_AS_TOLD + ([LARGEST] * 12,):
            with self.subTest(worths=worths):
                self.assertEqual(ask(("begin", 20), ("would", worths)), [[0], [-22]])
                self.assertEqual(ask_behind(FIVE, ("would", worths)), [[-22]])

    def test_it_is_what_best_tells_behind_such_a_kind(self):
        for places in range(21):
            for worths in ([9, 7, 7, 2], [1000], [0] * 8, [10] * 8):
                line = TWO + [("room", places)]
                found = ask_behind(line, ("would", worths), ("kind", worths), ("best",))
                self.assertEqual(found[0], found[2])

    def test_nothing_changes(self):
        before = ask_behind(TWO, *whole_state())
        for worths in ([11, 7], [], [1, 2]):
            with self.subTest(worths=worths):
                self.assertEqual(ask_behind(TWO + [("would", worths)], *whole_state()), before)
        self.assertEqual(ask_behind(FIVE + [("would", [1])], *whole_state()), ask_behind(FIVE, *whole_state()))


if __name__ == "__main__":
    unittest.main()
