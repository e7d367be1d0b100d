"""kind and drop."""

import unittest

from tests.helper import LARGEST, ask, ask_behind, whole_state

FIVE = [("begin", 20), ("kind", [50, 5]), ("kind", [40]), ("kind", [30, 3]), ("kind", [20]), ("kind", [10, 1])]

NOT_AS_TOLD = (
    [], [9] * 9, [9] * 12, [0] * 9, [1001], [1001, 1], [LARGEST], [LARGEST] * 8, [1, 2], [5, 5, 6], [9, 3, 4],
    [0, 1], [5, LARGEST], [8, 7, 6, 5, 4, 3, 2, 3],
)

AS_TOLD = (
    [1], [0], [1000], [1000] * 8, [0] * 8, [8, 7, 6, 5, 4, 3, 2, 1], [5, 5], [5, 0], [5, 5, 0, 0], [1000, 0],
)


class Kind(unittest.TestCase):
    def test_its_number_is_answered(self):
        self.assertEqual(ask(*FIVE), [[0], [0], [1], [2], [3], [4]])

    def test_as_told(self):
        for worths in AS_TOLD:
            with self.subTest(worths=worths):
                found = ask(("begin", 20), ("kind", worths), ("best",))
                self.assertEqual(found, [[0], [0], [sum(worths), len(worths)]])

    def test_not_as_told(self):
        for worths in NOT_AS_TOLD:
            with self.subTest(worths=worths):
                self.assertEqual(ask(("begin", 20), ("kind", worths), ("best",)), [[0], [-22], [0]])

    def test_a_sixth_is_too_many(self):
        self.assertEqual(ask_behind(FIVE, ("kind", [1])), [[-28]])

    def test_a_sixth_that_is_not_as_told_is_out_of_range(self):
        for worths in NOT_AS_TOLD:
            with self.subTest(worths=worths):
                self.assertEqual(ask_behind(FIVE, ("kind", worths)), [[-22]])

    def test_what_is_refused_changes_nothing(self):
        before = ask_behind(FIVE, *whole_state())
        self.assertEqual(ask_behind(FIVE + [("kind", [60])], *whole_state()), before)
        self.assertEqual(ask_behind(FIVE + [("kind", [1, 2])], *whole_state()), before)

    def test_the_worths_are_kept_in_their_order(self):
        found = ask(("begin", 3), ("kind", [9, 7, 7, 2]), *[("worth", 0, n) for n in range(5)])
        self.assertEqual(found[2:], [[0, 9], [9, 7], [16, 7], [23, 2], [25, 0]])


class Drop(unittest.TestCase):
    def test_how_many_are_left_is_answered(self):
        found = ask_behind(FIVE, ("drop", 4), ("drop", 1), ("drop", 0), ("drop", 1), ("drop", 0), ("drop", 0))
        self.assertEqual(found, [[4], [3], [2], [1], [0], [-2]])

    def test_those_behind_have_one_number_less(self):
        found = ask_behind(FIVE, ("drop", 1), *[("worth", k, 1) for k in range(5)])
        self.assertEqual(found, [[4], [50, 5], [30, 3], [20, 0], [10, 1], [-2]])

    def test_the_first_and_the_last(self):
        found = ask_behind(FIVE, ("drop", 0), ("drop", 3), *[("worth", k, 1) for k in range(4)])
        self.assertEqual(found, [[4], [3], [40, 0], [30, 3], [20, 0], [-2]])

    def test_a_new_kind_comes_last(self):
        found = ask_behind(FIVE, ("drop", 0), ("kind", [7]), ("worth", 4, 1), ("worth", 0, 1))
        self.assertEqual(found, [[4], [4], [7, 0], [40, 0]])

    def test_none_such(self):
        for k in (5, 6, LARGEST):
            with self.subTest(k=k):
                self.assertEqual(ask_behind(FIVE, ("drop", k)), [[-2]])
        self.assertEqual(ask(("begin", 3), ("drop", 0)), [[0], [-2]])

    def test_what_is_refused_changes_nothing(self):
        before = ask_behind(FIVE, *whole_state())
        self.assertEqual(ask_behind(FIVE + [("drop", 5)], *whole_state()), before)


if __name__ == "__main__":
    unittest.main()
