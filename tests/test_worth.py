"""value, worth and without."""

import unittest

from tests.helper import LARGEST, ask, ask_behind, whole_state

THREE = [("begin", 4), ("kind", [10, 6, 1]), ("kind", [12, 6, 6]), ("kind", [3])]


class Value(unittest.TestCase):
    def test_ordinary(self):
        found = ask_behind(THREE, ("value", [1, 1, 1]), ("value", [2, 2, 0]), ("value", [0, 0, 0]))
        self.assertEqual(found, [[25, 9], [34, 0], [0, 34]])

    def test_another_that_is_worth_as_much(self):
        self.assertEqual(ask_behind(THREE, ("value", [1, 3, 0])), [[34, 0]])

    def test_too_few_and_too_many_kinds(self):
        for sharing in ([], [1], [1, 1], [1, 1, 1, 0], [0] * 8, [1, 1, 1, 1], [LARGEST] * 8):
            with self.subTest(sharing=sharing):
                self.assertEqual(ask_behind(THREE, ("value", sharing)), [[-22]])

    def test_more_pieces_than_a_kind_has(self):
        for sharing in ([4, 0, 0], [0, 4, 0], [0, 0, 2], [0, 0, LARGEST], [LARGEST, 0, 0]):
            with self.subTest(sharing=sharing):
                self.assertEqual(ask_behind(THREE, ("value", sharing)), [[-22]])

    def test_all_that_a_kind_has(self):
        self.assertEqual(ask_behind(THREE, ("value", [3, 0, 1]), ("value", [0, 3, 1])), [[20, 14], [27, 7]])

    def test_as_many_pieces_as_places_and_one_more(self):
        found = ask_behind(THREE, ("value", [2, 1, 1]), ("value", [2, 2, 1]), ("value", [3, 3, 1]))
        self.assertEqual(found, [[31, 3], [-28], [-28]])

    def test_no_sharing_and_too_many_pieces(self):
        found = ask_behind(THREE, ("value", [4, 3, 1]), ("value", [5, 0, 0]), ("value", [3, 3]))
        self.assertEqual(found, [[-22], [-22], [-22]])

    def test_no_places(self):
        found = ask(("begin", 0), ("kind", [5]), ("value", [0]), ("value", [1]), ("value", [2]))
        self.assertEqual(found[2:], [[0, 0], [-28], [-22]])

    def test_no_kinds(self):
        self.assertEqual(ask(("begin", 3), ("value", []), ("value", [0])), [[0], [0, 0], [-22]])

    def test_pieces_worth_nothing_need_places_too(self):
        found = ask(("begin", 1), ("kind", [0, 0]), ("value", [1]), ("value", [2]))
        self.assertEqual(found[2:], [[0, 0], [-28]])


class Worth(unittest.TestCase):
    def test_ordinary(self):
        found = ask_behind(THREE, *[("worth", 0, n) for n in range(4)])
        self.assertEqual(found, [[0, 10], [10, 6], [16, 1], [17, 0]])

    def test_one_more_than_all(self):
        found = ask_behind(THREE, ("worth", 0, 4), ("worth", 2, 1), ("worth", 2, 2), ("worth", 1, LARGEST))
        self.assertEqual(found, [[-22], [3, 0], [-22], [-22]])

    def test_none_such_comes_first(self):
        found = ask_behind(THREE, ("worth", 3, 0), ("worth", 3, 9), ("worth", LARGEST, LARGEST))
        self.assertEqual(found, [[-2], [-2], [-2]])
        self.assertEqual(ask(("begin", 3), ("worth", 0, 0)), [[0], [-2]])

    def test_eight_pieces_of_a_thousand(self):
        found = ask(("begin", 0), ("kind", [1000] * 8), ("worth", 0, 8), ("worth", 0, 7), ("worth", 0, 9))
        self.assertEqual(found[2:], [[8000, 0], [7000, 1000], [-22]])

    def test_places_do_not_bound_it(self):
        self.assertEqual(ask(("begin", 0), ("kind", [5, 4]), ("worth", 0, 2))[-1], [9, 0])


class Without(unittest.TestCase):
    def test_ordinary(self):
        found = ask_behind(THREE, ("without", 0), ("without", 1), ("without", 2))
        self.assertEqual(found, [[27, 7], [20, 14], [34, 0]])

    def test_the_only_kind(self):
        self.assertEqual(ask(("begin", 2), ("kind", [5, 4, 3]), ("without", 0))[-1], [0, 9])

    def test_one_of_two_alike(self):
        found = ask(("begin", 2), ("kind", [5, 4]), ("kind", [5, 4]), ("without", 0), ("without", 1))
        self.assertEqual(found[3:], [[9, 1], [9, 1]])

    def test_no_places(self):
        self.assertEqual(ask(("begin", 0), ("kind", [5]), ("without", 0))[-1], [0, 0])

    def test_none_such(self):
        self.assertEqual(ask_behind(THREE, ("without", 3), ("without", LARGEST)), [[-2], [-2]])
        self.assertEqual(ask(("begin", 2), ("without", 0)), [[0], [-2]])


class NothingChanges(unittest.TestCase):
    def test_what_only_tells_or_is_refused_changes_nothing(self):
        before = ask_behind(THREE, *whole_state(), ("room", 0))
        for call in (
            ("best",), ("at", 1), ("at", 21), ("price", 1), ("price", 21), ("steps",), ("value", [1, 1, 1]),
            ("value", [3, 3, 1]), ("value", []), ("worth", 0, 1), ("worth", 0, 9), ("worth", 9, 9), ("without", 0),
            ("without", 3), ("begin", 21), ("kind", []), ("drop", 3), ("room", 21),
        ):
            with self.subTest(call=call):
                self.assertEqual(ask_behind(THREE + [call], *whole_state(), ("room", 0)), before)


if __name__ == "__main__":
    unittest.main()
