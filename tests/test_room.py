"""room."""

import unittest

from tests.helper import LARGEST, ask


class Room(unittest.TestCase):
    def test_how_many_there_were_is_answered(self):
        found = ask(("begin", 4), ("room", 7), ("room", 0), ("room", 20), ("room", 20), ("room", 1))
        self.assertEqual(found, [[0], [4], [7], [0], [20], [20]])

    def test_so_many_there_are(self):
        found = ask(("begin", 1), ("kind", [5, 4, 3]), ("room", 2), ("best",), ("room", 0), ("best",))
        self.assertEqual(found[2:], [[1], [9, 2], [2], [0, 0]])

    def test_kinds_stay(self):
        found = ask(("begin", 1), ("kind", [5]), ("kind", [6]), ("room", 9), ("best",))
        self.assertEqual(found[-1], [11, 1, 1])

    def test_above_20_is_out_of_range(self):
        for places in (21, 100, LARGEST):
            with self.subTest(places=places):
                found = ask(("begin", 2), ("kind", [5, 4, 3]), ("room", places), ("best",), ("room", 3))
                self.assertEqual(found[2:], [[-22], [9, 2], [2]])


if __name__ == "__main__":
    unittest.main()
