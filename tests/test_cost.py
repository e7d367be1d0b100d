"""cost, buy and upto."""

import unittest

from tests.helper import LARGEST, ask, whole_state


def of_seller(steps, *calls):
    """What calls with the seller left out answer of this one, who is the only one."""
    found = ask(("begin", 0), ("seller", steps), *[(name, 0, *given) for name, *given in calls])
    return found[2:]


def each(name, steps, numbers):
    return of_seller(steps, *[(name, n) for n in numbers])


class Cost(unittest.TestCase):
    def test_ordinary(self):
        found = each("cost", [1, 10, 5, 8, 10, 5], (1, 2, 4, 5, 6, 9, 10, 11, 60))
        self.assertEqual(found, [
            [10, 10], [20, 10], [40, 10], [40, 8], [48, 8], [72, 8], [50, 5], [55, 5], [300, 5],
        ])

    def test_none(self):
        for steps in ([1, 10], [1, 1000, 2, 3], [1, 0]):
            with self.subTest(steps=steps):
                self.assertEqual(each("cost", steps, (0,)), [[0, 0]])

    def test_one_step(self):
        self.assertEqual(each("cost", [1, 7], (1, 2, 59, 60)), [[7, 7], [14, 7], [413, 7], [420, 7]])

    def test_a_price_that_does_not_fall(self):
        self.assertEqual(each("cost", [1, 7, 3, 7], (2, 3, 4)), [[14, 7], [21, 7], [28, 7]])

    def test_a_piece_for_nothing(self):
        self.assertEqual(each("cost", [1, 7, 3, 0], (1, 2, 3, 60)), [[7, 7], [14, 7], [0, 0], [0, 0]])

    def test_four_steps_next_to_one_another(self):
        found = each("cost", [1, 9, 2, 8, 3, 7, 4, 6], (1, 2, 3, 4, 5))
        self.assertEqual(found, [[9, 9], [16, 8], [21, 7], [24, 6], [30, 6]])

    def test_a_step_from_60_on(self):
        self.assertEqual(each("cost", [1, 1000, 60, 1], (59, 60)), [[59000, 1000], [60, 1]])

    def test_above_60_is_out_of_range(self):
        self.assertEqual(each("cost", [1, 5], (60, 61, 62, LARGEST)), [[300, 5], [-22], [-22], [-22]])

    def test_each_seller_has_its_own(self):
        found = ask(
            ("begin", 0), ("seller", [1, 5]), ("seller", [1, 4]), ("seller", [1, 3]), ("cost", 0, 2), ("cost", 1, 2),
            ("cost", 2, 2),
        )
        self.assertEqual(found[4:], [[10, 5], [8, 4], [6, 3]])

    def test_none_such_comes_first(self):
        found = of_seller([1, 5], ("cost", 1)) + ask(
            ("begin", 0), ("seller", [1, 5]), ("cost", 1, 0), ("cost", 1, 61), ("cost", LARGEST, LARGEST),
        )[2:]
        self.assertEqual(found, [[5, 5], [-2], [-2], [-2]])
        self.assertEqual(ask(("begin", 0), ("kind", [5]), ("cost", 0, 1), ("cost", 0, 61))[2:], [[-2], [-2]])


class Buy(unittest.TestCase):
    def test_ordinary(self):
        found = each("buy", [1, 10, 5, 8, 10, 5], range(12))
        self.assertEqual(found, [
            [0, 0, 0], [1, 10, 10], [2, 20, 20], [3, 30, 30], [4, 40, 40], [5, 40, 40], [6, 48, 48],
            [10, 50, 56], [10, 50, 64], [10, 50, 72], [10, 50, 50], [11, 55, 55],
        ])

    def test_alike_ones_are_told_by_the_least_number(self):
        # 4 cost what 5 do, 3 what 6 do
        self.assertEqual(each("buy", [1, 5, 5, 4], (3, 4, 5)), [[3, 15, 15], [4, 20, 20], [5, 20, 20]])
        self.assertEqual(each("buy", [1, 4, 6, 2], (2, 3, 4, 6)), [[2, 8, 8], [3, 12, 12], [6, 12, 16], [6, 12, 12]])

    def test_one_step(self):
        self.assertEqual(each("buy", [1, 7], (0, 1, 59, 60)), [[0, 0, 0], [1, 7, 7], [59, 413, 413], [60, 420, 420]])

    def test_a_price_that_does_not_fall(self):
        found = each("buy", [1, 7, 4, 7, 9, 7], range(61))
        self.assertEqual(found, [[n, 7 * n, 7 * n] for n in range(61)])

    def test_just_as_many_as_a_step_asks(self):
        self.assertEqual(each("buy", [1, 100, 8, 1], (7, 8, 9)), [[8, 8, 700], [8, 8, 8], [9, 9, 9]])

    def test_a_piece_for_nothing(self):
        found = each("buy", [1, 7, 3, 0], (0, 1, 2, 3, 4, 60))
        self.assertEqual(found, [[0, 0, 0], [3, 0, 7], [3, 0, 14], [3, 0, 0], [4, 0, 0], [60, 0, 0]])
        self.assertEqual(each("buy", [1, 0], (0, 1, 60)), [[0, 0, 0], [1, 0, 0], [60, 0, 0]])

    def test_all_60(self):
        found = each("buy", [1, 1000, 60, 1], (0, 1, 30, 59, 60))
        self.assertEqual(found, [[0, 0, 0], [60, 60, 1000], [60, 60, 30000], [60, 60, 59000], [60, 60, 60]])

    def test_a_step_further_on_is_passed_over_to(self):
        # 4 at the second step would cost 36, 6 at the third 30, 10 at the last 10
        self.assertEqual(each("buy", [1, 10, 4, 9, 6, 5, 10, 1], (1, 2, 3)), [[1, 10, 10], [10, 10, 20], [10, 10, 30]])

    def test_the_last_step_is_not_always_best(self):
        # 5 cost 20, 50 cost 50
        found = each("buy", [1, 10, 5, 4, 50, 1], (1, 2, 3, 12, 13))
        self.assertEqual(found, [[1, 10, 10], [2, 20, 20], [5, 20, 30], [12, 48, 48], [50, 50, 52]])

    def test_above_60_is_out_of_range(self):
        self.assertEqual(each("buy", [1, 5], (60, 61, LARGEST)), [[60, 300, 300], [-22], [-22]])

    def test_none_such_comes_first(self):
        found = ask(("begin", 0), ("seller", [1, 5]), ("buy", 1, 0), ("buy", 1, 61), ("buy", LARGEST, LARGEST))
        self.assertEqual(found[2:], [[-2], [-2], [-2]])
        self.assertEqual(ask(("begin", 0), ("kind", [5]), ("buy", 0, 1), ("buy", 0, 61))[2:], [[-2], [-2]])

    def test_each_seller_has_its_own(self):
        found = ask(("begin", 0), ("seller", [1, 5]), ("seller", [1, 4, 3, 1]), ("buy", 0, 2), ("buy", 1, 2))
        self.assertEqual(found[3:], [[2, 10, 10], [3, 3, 8]])


class Upto(unittest.TestCase):
    def test_ordinary(self):
        found = each("upto", [1, 10, 5, 4], (0, 9, 10, 19, 20, 23, 24, 30, 239, 240, 241))
        self.assertEqual(found, [
            [0, 0], [0, 0], [1, 10], [1, 10], [5, 20], [5, 20], [6, 24], [7, 28], [59, 236], [60, 240], [60, 240],
        ])

    def test_more_that_cost_less(self):
        # 8 cost 64, but 60 only 60
        found = each("upto", [1, 10, 5, 8, 60, 1], (39, 40, 55, 56, 59, 60, 64, 60000))
        self.assertEqual(found, [[3, 30], [5, 40], [6, 48], [7, 56], [7, 56], [60, 60], [60, 60], [60, 60]])

    def test_alike_ones_are_told_by_the_most_pieces(self):
        self.assertEqual(each("upto", [1, 5, 5, 4], (19, 20)), [[3, 15], [5, 20]])

    def test_a_piece_for_nothing(self):
        self.assertEqual(each("upto", [1, 0], (0, 5)), [[60, 0], [60, 0]])
        self.assertEqual(each("upto", [1, 7, 3, 0], (0, 6, 60000)), [[60, 0], [60, 0], [60, 0]])

    def test_one_step(self):
        self.assertEqual(each("upto", [1, 7], (6, 7, 13, 14, 419, 420)), [
            [0, 0], [1, 7], [1, 7], [2, 14], [59, 413], [60, 420],
        ])

    def test_all_the_money(self):
        found = each("upto", [1, 1000], (999, 1000, 59999, 60000, 60001, LARGEST))
        self.assertEqual(found, [[0, 0], [1, 1000], [59, 59000], [60, 60000], [-22], [-22]])

    def test_none_such_comes_first(self):
        found = ask(("begin", 0), ("seller", [1, 5]), ("upto", 1, 0), ("upto", 1, 60001), ("upto", LARGEST, LARGEST))
        self.assertEqual(found[2:], [[-2], [-2], [-2]])
        self.assertEqual(ask(("begin", 0), ("kind", [5]), ("upto", 0, 1), ("upto", 0, 60001))[2:], [[-2], [-2]])

    def test_each_seller_has_its_own(self):
        found = ask(("begin", 0), ("seller", [1, 5]), ("seller", [1, 4, 3, 1]), ("upto", 0, 12), ("upto", 1, 12))
        self.assertEqual(found[3:], [[2, 10], [12, 12]])


class NothingChanges(unittest.TestCase):
    def test_what_only_tells_or_is_refused_changes_nothing(self):
        line = [("begin", 3), ("kind", [5, 4]), ("seller", [1, 10, 5, 4]), ("seller", [1, 6])]
        before = ask(*line, *whole_state())
        for call in (
            ("cost", 0, 3), ("cost", 0, 61), ("cost", 2, 0), ("buy", 0, 3), ("buy", 0, 61), ("buy", 2, 0),
            ("upto", 0, 30), ("upto", 0, 60001), ("upto", 2, 0),
        ):
            with self.subTest(call=call):
                found = ask(*line, call, *whole_state())
                self.assertEqual(found[:len(line)] + found[len(line) + 1:], before)


if __name__ == "__main__":
    unittest.main()
