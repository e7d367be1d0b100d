"""begin, and what all others answer ahead of it."""

import unittest

from tests.helper import LARGEST, ask

OTHERS = [
    ("kind", [5, 3]), ("kind", []), ("kind", [LARGEST] * 12), ("drop", 0), ("drop", LARGEST), ("room", 3),
    ("room", 21), ("best",), ("at", 0), ("at", LARGEST), ("price", 0), ("price", 21), ("steps",), ("value", []),
    ("value", [1] * 8), ("worth", 0, 0), ("worth", LARGEST, LARGEST), ("without", 0), ("would", [5, 3]),
    ("would", []), ("seller", [1, 5]), ("seller", []), ("seller", [1] * 12), ("away", 0), ("cost", 0, 1),
    ("buy", 0, 1), ("cheapest", 1), ("two", 0, 1, 2), ("upto", 0, 5), ("sums",), ("state",),
    ("would", [LARGEST] * 12), ("seller", [LARGEST] * 12), ("away", LARGEST), ("cost", LARGEST, LARGEST),
    ("buy", LARGEST, LARGEST), ("cheapest", LARGEST), ("two", LARGEST, LARGEST, LARGEST), ("two", 0, 0, 61),
    ("upto", LARGEST, LARGEST),
]


class Begin(unittest.TestCase):
    def test_all_others_are_refused_before(self):
        for call in OTHERS:
            with self.subTest(call=call):
                self.assertEqual(ask(call), [[-11]])
        self.assertEqual(ask(*OTHERS), [[-11]] * len(OTHERS))

    def test_refused_ones_before_leave_nothing(self):
        found = ask(("kind", [5]), ("seller", [1, 5]), ("room", 7), ("begin", 3), ("best",), ("state",), ("room", 4))
        self.assertEqual(found, [[-11], [-11], [-11], [0], [0], [3, 0, 0], [3]])

    def test_places_up_to_20(self):
        for places in (0, 1, 19, 20):
            with self.subTest(places=places):
                self.assertEqual(ask(("begin", places), ("room", 0)), [[0], [places]])

    def test_above_20_is_out_of_range(self):
        for places in (21, 22, 1000, LARGEST):
            with self.subTest(places=places):
                self.assertEqual(ask(("begin", places)), [[-22]])

    def test_a_refused_begin_does_not_begin(self):
        self.assertEqual(ask(("begin", 21), ("best",), ("kind", [5]), ("state",)), [[-22], [-11], [-11], [-11]])

    def test_begin_behind_a_refused_one(self):
        self.assertEqual(ask(("begin", 21), ("begin", 2), ("best",)), [[-22], [0], [0]])

    def test_a_refused_second_begin_changes_nothing(self):
        found = ask(
            ("begin", 2), ("kind", [5, 4, 3]), ("seller", [1, 5]), ("begin", 21), ("best",), ("state",), ("room", 1),
        )
        self.assertEqual(found, [[0], [0], [0], [-22], [9, 2], [2, 1, 1, 1, 1, 5], [2]])

    def test_a_second_begin_leaves_no_kinds(self):
        found = ask(
            ("begin", 2), ("kind", [5]), ("kind", [4]), ("begin", 3), ("best",), ("worth", 0, 0), ("steps",),
            ("kind", [2]), ("room", 0),
        )
        self.assertEqual(found, [[0], [0], [1], [0], [0], [-2], [0], [0], [3]])

    def test_a_second_begin_leaves_no_sellers(self):
        found = ask(
            ("begin", 2), ("seller", [1, 5]), ("seller", [1, 6]), ("begin", 4), ("state",), ("sums",), ("cost", 0, 0),
            ("away", 0), ("cheapest", 0), ("seller", [1, 7]), ("cost", 0, 1),
        )
        self.assertEqual(found[3:], [[0], [4, 0, 0], [0, 0, 0, 0, 0], [-2], [-2], [-6], [0], [7, 7]])

    def test_a_second_begin_makes_room_for_three_sellers(self):
        found = ask(("begin", 2), *[("seller", [1, 5])] * 3, ("begin", 2), *[("seller", [1, 5])] * 4)
        self.assertEqual(found[-4:], [[0], [1], [2], [-28]])

    def test_a_second_begin_makes_room_for_five_kinds(self):
        found = ask(("begin", 2), *[("kind", [5])] * 5, ("begin", 2), *[("kind", [5])] * 6)
        self.assertEqual(found[-6:], [[0], [1], [2], [3], [4], [-28]])


if __name__ == "__main__":
    unittest.main()
