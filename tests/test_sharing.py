"""best, at, price and steps."""

import unittest

from tests.helper import LARGEST, ask, ask_behind

THREE = [("begin", 4), ("kind", [10, 6, 1]), ("kind", [12, 6, 6]), ("kind", [3])]
ALL_FULL = [("begin", 20)] + [("kind", [9, 8, 7, 6, 5, 4, 3, 2])] * 5


class Best(unittest.TestCase):
    def test_ordinary(self):
        self.assertEqual(ask_behind(THREE, ("best",)), [[34, 2, 2, 0]])

    def test_no_places(self):
        self.assertEqual(ask(("begin", 0), ("kind", [5]), ("kind", [4]), ("best",))[-1], [0, 0, 0])

    def test_no_kinds(self):
        self.assertEqual(ask(("begin", 20), ("best",))[-1], [0])

    def test_more_places_than_pieces(self):
        self.assertEqual(ask(("begin", 20), ("kind", [5, 5]), ("kind", [4, 0, 0]), ("best",))[-1], [14, 2, 3])

    def test_of_alike_ones_the_first(self):
        found = ask(("begin", 3), ("kind", [5, 5, 1]), ("kind", [5, 5, 5]), ("best",))
        self.assertEqual(found[-1], [15, 2, 1])

    def test_pieces_worth_nothing_are_laid(self):
        found = ask(("begin", 3), ("kind", [0, 0]), ("kind", [1, 0, 0]), ("best",))
        self.assertEqual(found[-1], [1, 2, 1])

    def test_twenty_places_full(self):
        self.assertEqual(ask_behind(ALL_FULL, ("best",)), [[150, 4, 4, 4, 4, 4]])

    def test_it_follows_drop_and_room(self):
        found = ask_behind(THREE, ("drop", 1), ("best",), ("room", 2), ("best",))
        self.assertEqual(found, [[2], [20, 3, 1], [4], [16, 2, 0]])


class At(unittest.TestCase):
    def test_ordinary(self):
        found = ask_behind(THREE, *[("at", r) for r in range(9)])
        self.assertEqual(found, [
            [0, 0, 0, 0], [12, 0, 1, 0], [22, 1, 1, 0], [28, 2, 1, 0], [34, 2, 2, 0],
            [40, 2, 3, 0], [43, 2, 3, 1], [44, 3, 3, 1], [44, 3, 3, 1],
        ])

    def test_no_kinds(self):
        self.assertEqual(ask(("begin", 3), ("at", 0), ("at", 20)), [[0], [0], [0]])

    def test_20_and_21_places(self):
        self.assertEqual(ask_behind(ALL_FULL, ("at", 20), ("at", 19)), [[150, 4, 4, 4, 4, 4], [144, 4, 4, 4, 4, 3]])
        for places in (21, LARGEST):
            with self.subTest(places=places):
                self.assertEqual(ask_behind(ALL_FULL, ("at", places)), [[-22]])

    def test_it_changes_no_places(self):
        self.assertEqual(ask_behind(THREE, ("at", 1), ("at", 21), ("best",), ("room", 0))[2:], [[34, 2, 2, 0], [4]])


class Price(unittest.TestCase):
    def test_ordinary(self):
        found = ask_behind(THREE, *[("price", r) for r in range(9)])
        self.assertEqual(found, [[12], [10], [6], [6], [6], [3], [1], [0], [0]])

    def test_no_piece_more(self):
        self.assertEqual(ask(("begin", 3), ("price", 0), ("price", 20)), [[0], [0], [0]])
        self.assertEqual(ask(("begin", 3), ("kind", [7]), ("price", 0), ("price", 1))[2:], [[7], [0]])

    def test_a_piece_worth_nothing(self):
        self.assertEqual(ask(("begin", 3), ("kind", [7, 0]), ("price", 1), ("price", 2))[2:], [[0], [0]])

    def test_20_and_21_places(self):
        self.assertEqual(ask_behind(ALL_FULL, ("price", 19), ("price", 20)), [[6], [5]])
        for places in (21, LARGEST):
            with self.subTest(places=places):
                self.assertEqual(ask_behind(ALL_FULL, ("price", places)), [[-22]])

    def test_it_is_what_the_next_place_adds(self):
        for line in (THREE, ALL_FULL, [("begin", 5), ("kind", [1000] * 8), ("kind", [0])]):
            worth = [found[0] for found in ask_behind(line, *[("at", r) for r in range(21)])]
            prices = [found[0] for found in ask_behind(line, *[("price", r) for r in range(20)])]
            self.assertEqual(prices, [worth[r + 1] - worth[r] for r in range(20)])

    def test_it_does_not_ask_for_the_places_there_are(self):
        self.assertEqual(ask(("begin", 0), ("kind", [7, 5]), ("price", 1), ("room", 9))[2:], [[5], [0]])


class Steps(unittest.TestCase):
    def test_ordinary(self):
        self.assertEqual(ask_behind(THREE, ("steps",)), [[4, 1, 0, 0, 1]])

    def test_all_the_pieces(self):
        self.assertEqual(ask_behind(THREE, ("room", 20), ("steps",))[1], [7, 1, 0, 0, 1, 1, 2, 0])

    def test_no_places_and_no_kinds(self):
        self.assertEqual(ask(("begin", 0), ("kind", [5]), ("steps",))[-1], [0])
        self.assertEqual(ask(("begin", 9), ("steps",))[-1], [0])

    def test_two_kinds_worth_the_same(self):
        found = ask(("begin", 4), ("kind", [5, 3]), ("kind", [5, 3]), ("steps",))
        self.assertEqual(found[-1], [4, 0, 1, 0, 1])

    def test_pieces_worth_nothing_are_laid(self):
        found = ask(("begin", 4), ("kind", [0, 0]), ("kind", [0]), ("kind", [2, 0]), ("steps",))
        self.assertEqual(found[-1], [4, 2, 0, 0, 1])

    def test_twenty_places_full(self):
        self.assertEqual(ask_behind(ALL_FULL, ("steps",)), [[20] + [0, 1, 2, 3, 4] * 4])


if __name__ == "__main__":
    unittest.main()
