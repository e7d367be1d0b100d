"""sums and state."""

import unittest

from tests.helper import ask, ask_behind

FULL = [
    ("begin", 4), ("kind", [10, 6, 1]), ("kind", [12, 6, 6]), ("kind", [3]),
    ("seller", [1, 10, 5, 4]), ("seller", [1, 6]), ("seller", [1, 9, 2, 8, 3, 7, 60, 0]),
]


class Sums(unittest.TestCase):
    def test_ordinary(self):
        self.assertEqual(ask_behind(FULL, ("sums",)), [[0, 3, 7, 3, 34]])

    def test_nothing_there(self):
        self.assertEqual(ask(("begin", 20), ("sums",)), [[0], [0, 0, 0, 0, 0]])

    def test_no_places(self):
        self.assertEqual(ask(("begin", 0), ("kind", [5, 4]), ("sums",))[-1], [0, 1, 2, 0, 0])

    def test_more_places_than_pieces(self):
        self.assertEqual(ask_behind(FULL, ("room", 20), ("sums",))[1], [0, 3, 7, 3, 44])

    def test_the_most_there_may_be(self):
        line = [("begin", 20)] + [("kind", [1000] * 8)] * 5 + [("seller", [1, 1000])] * 3
        self.assertEqual(ask_behind(line, ("sums",)), [[0, 5, 40, 3, 20000]])

    def test_pieces_worth_nothing_are_pieces(self):
        self.assertEqual(ask(("begin", 2), ("kind", [0, 0, 0]), ("sums",))[-1], [0, 1, 3, 0, 0])

    def test_behind_drop_and_away(self):
        found = ask_behind(FULL, ("drop", 1), ("sums",), ("away", 0), ("sums",), ("drop", 0), ("sums",))
        self.assertEqual(found, [[2], [0, 2, 4, 3, 20], [2], [0, 2, 4, 2, 20], [1], [0, 1, 1, 2, 3]])


class State(unittest.TestCase):
    def test_ordinary(self):
        self.assertEqual(ask_behind(FULL, ("state",)), [
            [4, 3, 3, 2, 1, 10, 5, 4, 1, 1, 6, 4, 1, 9, 2, 8, 3, 7, 60, 0],
        ])

    def test_nothing_there(self):
        self.assertEqual(ask(("begin", 20), ("state",), ("begin", 0), ("state",)), [[0], [20, 0, 0], [0], [0, 0, 0]])

    def test_kinds_alone(self):
        self.assertEqual(ask(("begin", 3), ("kind", [5]), ("kind", [4, 3]), ("state",))[-1], [3, 2, 0])

    def test_sellers_alone(self):
        self.assertEqual(ask(("begin", 3), ("seller", [1, 5, 2, 5]), ("state",))[-1], [3, 0, 1, 2, 1, 5, 2, 5])

    def test_behind_drop_away_and_room(self):
        found = ask_behind(FULL, ("drop", 0), ("state",), ("away", 2), ("state",), ("room", 9), ("away", 0), ("state",))
        self.assertEqual(found, [
            [2], [4, 2, 3, 2, 1, 10, 5, 4, 1, 1, 6, 4, 1, 9, 2, 8, 3, 7, 60, 0],
            [2], [4, 2, 2, 2, 1, 10, 5, 4, 1, 1, 6],
            [4], [1], [9, 2, 1, 1, 1, 6],
        ])

    def test_asked_again_it_tells_the_same(self):
        first, sums, second, again = ask_behind(FULL, ("state",), ("sums",), ("state",), ("sums",))
        self.assertEqual([first, sums], [second, again])


if __name__ == "__main__":
    unittest.main()
