"""cheapest and two."""

import unittest

from tests.helper import LARGEST, ask, ask_behind, whole_state

THREE = [("begin", 5), ("seller", [1, 10, 5, 4]), ("seller", [1, 6]), ("seller", [1, 6, 20, 1])]


def with_sellers(sellers, *calls):
    return ask_behind([("begin", 0)] + [("seller", steps) for steps in sellers], *calls)


class Cheapest(unittest.TestCase):
    def test_ordinary(self):
        found = ask_behind(THREE, *[("cheapest", n) for n in (1, 2, 5, 19, 20, 21, 60)])
        self.assertEqual(found, [
            [1, 10, 6, 6], [1, 20, 12, 12], [0, 20, 30, 20], [2, 76, 114, 20], [2, 80, 120, 20], [2, 84, 126, 21],
            [2, 240, 360, 60],
        ])

    def test_best_bought_is_what_counts(self):
        # just 3 would cost 30 of the first, 5 of him cost 20; of the last 20 cost what 5 of the first do
        self.assertEqual(ask_behind(THREE, ("cheapest", 3), ("cheapest", 4)), [[1, 20, 18, 18], [0, 20, 24, 20]])
        self.assertEqual(with_sellers(([1, 5], [1, 9, 60, 0]), ("cheapest", 1)), [[1, 5, 0]])

    def test_of_alike_ones_the_first(self):
        self.assertEqual(with_sellers(([1, 5], [1, 5]), ("cheapest", 3)), [[0, 15, 15]])
        self.assertEqual(with_sellers(([1, 9], [1, 5], [1, 5]), ("cheapest", 3)), [[1, 27, 15, 15]])

    def test_none_wanted(self):
        self.assertEqual(ask_behind(THREE, ("cheapest", 0)), [[0, 0, 0, 0]])

    def test_one_seller(self):
        found = with_sellers(([1, 7, 3, 2],), ("cheapest", 0), ("cheapest", 2), ("cheapest", 60))
        self.assertEqual(found, [[0, 0], [0, 6], [0, 120]])

    def test_a_piece_for_nothing(self):
        self.assertEqual(with_sellers(([1, 1], [1, 0]), ("cheapest", 0), ("cheapest", 60)), [[0, 0, 0], [1, 60, 0]])

    def test_above_60_is_out_of_range(self):
        self.assertEqual(ask_behind(THREE, ("cheapest", 61), ("cheapest", LARGEST)), [[-22], [-22]])

    def test_no_sellers(self):
        found = ask(("begin", 5), ("kind", [5]), ("cheapest", 0), ("cheapest", 60), ("cheapest", 61))
        self.assertEqual(found[2:], [[-6], [-6], [-22]])

    def test_no_sellers_any_more(self):
        found = with_sellers(([1, 5],), ("cheapest", 1), ("away", 0), ("cheapest", 1), ("cheapest", 61))
        self.assertEqual(found, [[0, 5], [0], [-6], [-22]])

    def test_it_follows_away(self):
        self.assertEqual(ask_behind(THREE, ("away", 1), ("cheapest", 3)), [[2], [1, 20, 18]])


class Two(unittest.TestCase):
    def test_ordinary(self):
        found = ask_behind(THREE, *[("two", 0, 1, n) for n in (1, 2, 3, 4, 6, 60)])
        self.assertEqual(found, [[6, 0, 1], [12, 0, 2], [18, 0, 3], [20, 5, 0], [24, 6, 0], [240, 60, 0]])

    def test_the_other_way_round(self):
        found = ask_behind(THREE, *[("two", 1, 0, n) for n in (1, 2, 3, 4, 6, 60)])
        self.assertEqual(found, [[6, 1, 0], [12, 2, 0], [18, 3, 0], [20, 0, 5], [24, 0, 6], [240, 0, 60]])

    def test_the_first_and_the_last(self):
        found = ask_behind(THREE, ("two", 0, 2, 3), ("two", 2, 0, 3), ("two", 0, 2, 4), ("two", 2, 0, 4))
        self.assertEqual(found, [[18, 0, 3], [18, 3, 0], [20, 0, 20], [20, 0, 5]])

    def test_two_alike(self):
        found = with_sellers(([1, 9, 4, 5], [1, 9, 4, 5]), *[("two", 0, 1, n) for n in (0, 1, 2, 3, 4, 60)])
        self.assertEqual(found, [[0, 0, 0], [9, 0, 1], [18, 0, 2], [20, 0, 4], [20, 0, 4], [300, 0, 60]])

    def test_of_alike_ones_the_fewest_of_the_first(self):
        # 5 of the first cost what 4 of the second do
        found = with_sellers(([1, 9, 5, 4], [1, 5]), ("two", 0, 1, 4), ("two", 1, 0, 4))
        self.assertEqual(found, [[20, 0, 4], [20, 0, 5]])

    def test_none_wanted(self):
        self.assertEqual(ask_behind(THREE, ("two", 0, 1, 0), ("two", 2, 1, 0)), [[0, 0, 0], [0, 0, 0]])
        self.assertEqual(with_sellers(([1, 0], [1, 0]), ("two", 0, 1, 0)), [[0, 0, 0]])

    def test_more_of_the_first_than_are_wanted(self):
        found = with_sellers(([1, 100, 10, 1], [1, 20]), ("two", 0, 1, 1), ("two", 0, 1, 9), ("two", 0, 1, 11))
        self.assertEqual(found, [[10, 10, 0], [10, 10, 0], [11, 11, 0]])

    def test_more_of_the_second_than_are_wanted(self):
        found = with_sellers(([1, 20], [1, 100, 10, 1]), ("two", 0, 1, 1), ("two", 0, 1, 9), ("two", 0, 1, 11))
        self.assertEqual(found, [[10, 0, 10], [10, 0, 10], [11, 0, 11]])

    def test_a_piece_for_nothing(self):
        free_from_three = [1, 10, 3, 0]
        found = with_sellers(([1, 5], free_from_three), ("two", 1, 0, 1), ("two", 1, 0, 10), ("two", 0, 1, 10))
        self.assertEqual(found, [[0, 3, 0], [0, 10, 0], [0, 0, 10]])
        found = with_sellers((free_from_three, [1, 5, 60, 0]), ("two", 0, 1, 10), ("two", 1, 0, 60))
        self.assertEqual(found, [[0, 0, 60], [0, 0, 60]])

    def test_all_60(self):
        found = with_sellers(([1, 1000], [1, 1000, 60, 999]), ("two", 0, 1, 60), ("two", 1, 0, 60), ("two", 0, 1, 59))
        self.assertEqual(found, [[59940, 0, 60], [59940, 60, 0], [59000, 0, 59]])

    def test_none_such_comes_first(self):
        for call in (
            ("two", 3, 0, 1), ("two", 0, 3, 1), ("two", 3, 3, 1), ("two", 3, 3, 61), ("two", 0, 3, 61),
            ("two", 3, 0, 61), ("two", LARGEST, LARGEST, LARGEST), ("two", 0, LARGEST, 1), ("two", LARGEST, 0, 1),
        ):
            with self.subTest(call=call):
                self.assertEqual(ask_behind(THREE, call), [[-2]])

    def test_one_seller_and_none(self):
        self.assertEqual(with_sellers(([1, 5],), ("two", 0, 1, 1), ("two", 0, 0, 1)), [[-2], [-22]])
        self.assertEqual(ask(("begin", 0), ("two", 0, 0, 1), ("two", 0, 1, 61)), [[0], [-2], [-2]])

    def test_the_same_or_above_60_is_out_of_range(self):
        for call in (
            ("two", 0, 0, 1), ("two", 1, 1, 0), ("two", 2, 2, 61), ("two", 0, 1, 61), ("two", 2, 0, 61),
            ("two", 0, 1, LARGEST),
        ):
            with self.subTest(call=call):
                self.assertEqual(ask_behind(THREE, call), [[-22]])


class NothingChanges(unittest.TestCase):
    def test_what_only_tells_or_is_refused_changes_nothing(self):
        before = ask_behind(THREE, *whole_state())
        for call in (
            ("cheapest", 3), ("cheapest", 61), ("two", 0, 1, 3), ("two", 0, 0, 3), ("two", 0, 1, 61), ("two", 0, 3, 3),
        ):
            with self.subTest(call=call):
                self.assertEqual(ask_behind(THREE + [call], *whole_state()), before)
        self.assertEqual(ask(("begin", 2), ("cheapest", 3), ("state",)), [[0], [-6], [2, 0, 0]])


if __name__ == "__main__":
    unittest.main()
