"""seller and away."""

import unittest

from tests.helper import LARGEST, ask, ask_behind, whole_state

THREE = [("begin", 5), ("seller", [1, 10, 5, 4]), ("seller", [1, 6]), ("seller", [1, 6, 20, 1])]

AS_TOLD = (
    [1, 0], [1, 1000], [1, 7, 2, 7], [1, 7, 60, 7], [1, 1000, 2, 1000, 3, 1000, 60, 1000], [1, 9, 2, 8, 3, 7, 4, 6],
    [1, 5, 2, 0], [1, 0, 30, 0, 60, 0], [1, 1000, 59, 1, 60, 0],
)

NOT_A_SELLER = (
    # no steps, half a step, more than four
    [], [1], [1, 5, 3], [1, 5, 3, 4, 6], [1, 9, 2, 8, 3, 7, 4, 6, 5, 5], [1, 9, 2, 8, 3, 7, 4, 6, 5],
    [1, 9, 2, 8, 3, 7, 4, 6, 5, 5, 6, 4], [1, 0] * 6,
    # the first not from 1 on
    [0, 5], [2, 5], [60, 5], [LARGEST, 5], [0, 5, 1, 4], [2, 5, 3, 4],
    # not from more than the one before
    [1, 5, 1, 4], [1, 5, 1, 5], [1, 5, 0, 4], [1, 5, 4, 4, 4, 3], [1, 5, 4, 4, 3, 3], [1, 9, 2, 8, 3, 7, 3, 6],
    # from more than 60 on
    [1, 5, 61, 4], [1, 5, 60, 4, 61, 3], [1, 5, LARGEST, 4], [1, 5, 61, 4, 7, 3],
    # a piece above 1,000
    [1, 1001], [1, LARGEST], [1, 1001, 2, 5], [1, 1001, 2, 1001],
    # a piece more than the one before
    [1, 5, 2, 6], [1, 0, 2, 1], [1, 5, 2, 4, 3, 5], [1, 9, 2, 8, 3, 7, 4, 8], [1, 5, 2, LARGEST],
    # several at once
    [LARGEST] * 12, [LARGEST] * 2, [0] * 8,
)


class Seller(unittest.TestCase):
    def test_its_number_is_answered(self):
        self.assertEqual(ask(*THREE), [[0], [0], [1], [2]])

    def test_as_told(self):
        for steps in AS_TOLD:
            with self.subTest(steps=steps):
                found = ask(("begin", 0), ("seller", steps), ("state",))
                self.assertEqual(found, [[0], [0], [0, 0, 1, len(steps) // 2] + steps])

    def test_not_as_told(self):
        for steps in NOT_A_SELLER:
            with self.subTest(steps=steps):
                self.assertEqual(ask(("begin", 0), ("seller", steps), ("state",)), [[0], [-22], [0, 0, 0]])

    def test_a_fourth_is_too_many(self):
        self.assertEqual(ask_behind(THREE, ("seller", [1, 1]), ("seller", [1, 10, 5, 4])), [[-28], [-28]])

    def test_a_fourth_that_is_not_as_told_is_out_of_range(self):
        for steps in NOT_A_SELLER:
            with self.subTest(steps=steps):
                self.assertEqual(ask_behind(THREE, ("seller", steps)), [[-22]])

    def test_what_is_refused_changes_nothing(self):
        before = ask_behind(THREE, *whole_state())
        for steps in ([1, 1], [], [1, 5, 2, 6]):
            with self.subTest(steps=steps):
                self.assertEqual(ask_behind(THREE + [("seller", steps)], *whole_state()), before)

    def test_kinds_and_sellers_have_their_own_numbers(self):
        found = ask(
            ("begin", 3), ("kind", [5]), ("seller", [1, 9]), ("kind", [4]), ("seller", [1, 8]), ("drop", 0),
            ("cost", 1, 1), ("away", 0), ("worth", 0, 1), ("cost", 0, 1),
        )
        self.assertEqual(found, [[0], [0], [0], [1], [1], [1], [8, 8], [1], [4, 0], [8, 8]])


class Away(unittest.TestCase):
    def test_how_many_are_left_is_answered(self):
        found = ask_behind(THREE, ("away", 1), ("away", 1), ("away", 0), ("away", 0))
        self.assertEqual(found, [[2], [1], [0], [-2]])

    def test_those_behind_have_one_number_less(self):
        found = ask_behind(THREE, ("away", 1), *[("cost", s, 20) for s in range(3)], ("state",))
        self.assertEqual(found, [[2], [80, 4], [20, 1], [-2], [5, 0, 2, 2, 1, 10, 5, 4, 2, 1, 6, 20, 1]])

    def test_the_first_and_the_last(self):
        found = ask_behind(THREE, ("away", 0), ("state",), ("away", 1), ("state",))
        self.assertEqual(found, [[2], [5, 0, 2, 1, 1, 6, 2, 1, 6, 20, 1], [1], [5, 0, 1, 1, 1, 6]])

    def test_a_new_seller_comes_last(self):
        found = ask_behind(THREE, ("away", 0), ("seller", [1, 3]), ("cost", 2, 1), ("cost", 0, 1), ("seller", [1, 3]))
        self.assertEqual(found, [[2], [2], [3, 3], [6, 6], [-28]])

    def test_none_such(self):
        for s in (3, 4, LARGEST):
            with self.subTest(s=s):
                self.assertEqual(ask_behind(THREE, ("away", s)), [[-2]])
        self.assertEqual(ask(("begin", 3), ("kind", [5]), ("away", 0)), [[0], [0], [-2]])

    def test_what_is_refused_changes_nothing(self):
        before = ask_behind(THREE, *whole_state())
        self.assertEqual(ask_behind(THREE + [("away", 3)], *whole_state()), before)

    def test_kinds_and_places_stay(self):
        found = ask(("begin", 2), ("kind", [5, 4, 3]), ("seller", [1, 9]), ("away", 0), ("best",), ("state",))
        self.assertEqual(found[3:], [[0], [9, 2], [2, 1, 0]])


if __name__ == "__main__":
    unittest.main()
