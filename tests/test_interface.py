"""The interface: one list in, one list out, nothing changed and nothing kept."""

import unittest

from shelfshares.shop import answers
from tests.helper import LARGEST, as_numbers, ask

ORDINARY = [
    ("begin", 4), ("kind", [10, 6, 1]), ("kind", [8, 6]), ("best",), ("steps",), ("value", [1, 1]),
    ("worth", 0, 2), ("without", 0), ("price", 4), ("at", 2), ("room", 3), ("drop", 0), ("kind", [3]), ("best",),
    ("would", [9, 9]), ("seller", [1, 10, 5, 4]), ("seller", [1, 6]), ("seller", [1, 6, 20, 1]), ("cost", 0, 6),
    ("buy", 0, 3), ("cheapest", 3), ("two", 0, 1, 4), ("upto", 0, 23), ("away", 1), ("sums",), ("state",),
]


class Untouched(list):
    """A list that can't be changed, not for a while either."""

    def refuse(self, *given, **named):
        raise AssertionError("what is handed in was changed")

    append = clear = extend = insert = pop = remove = reverse = sort = refuse
    __setitem__ = __delitem__ = __iadd__ = __imul__ = refuse


class Interface(unittest.TestCase):
    def test_the_plain_list(self):
        line = [0, 2, 1, 3, 9, 4, 0, 1, 1, 5, 4, 7, 6, 2, 9, 0, 3]
        told = [1, 0, 1, 0, 1, 1, 3, 14, 1, 1, 3, 2, 0, 1, 1, 4, 2, 13, 0]
        self.assertEqual(answers(line), told)

    def test_the_plain_list_of_the_other_calls(self):
        line = [
            0, 2, 1, 2, 9, 4, 11, 1, 5, 12, 4, 1, 10, 5, 4, 12, 2, 1, 6, 14, 0, 5, 15, 0, 3, 16, 3, 17, 0, 1, 4,
            18, 0, 23, 19, 20, 13, 0,
        ]
        told = [
            1, 0, 1, 0, 3, 14, 1, 1, 1, 0, 1, 1, 2, 20, 4, 3, 5, 20, 30, 3, 1, 20, 18, 3, 20, 5, 0,
            2, 5, 20, 5, 0, 1, 2, 2, 13, 11, 2, 1, 2, 2, 1, 10, 5, 4, 1, 1, 6, 1, 1,
        ]
        self.assertEqual(answers(line), told)

    def test_an_ordinary_line(self):
        self.assertEqual(ask(*ORDINARY), [
            [0], [0], [1], [30, 2, 2], [4, 0, 1, 0, 1], [18, 12],
            [16, 1], [14, 16], [1], [18, 1, 1], [4], [1], [1], [17, 2, 1],
            [26, 1, 0, 2], [0], [1], [2], [24, 4], [5, 20, 30], [1, 20, 18, 18], [20, 5, 0], [5, 20], [2],
            [0, 2, 3, 2, 17], [3, 2, 2, 2, 1, 10, 5, 4, 2, 1, 6, 20, 1],
        ])

    def test_what_is_handed_in_stays_as_it_was(self):
        line = as_numbers(ORDINARY)
        copy = list(line)
        answers(line)
        self.assertEqual(line, copy)

    def test_what_is_handed_in_is_not_changed_for_a_while_either(self):
        line = as_numbers(ORDINARY)
        self.assertEqual(answers(Untouched(line)), answers(line))

    def test_a_second_time_gives_the_same(self):
        line = as_numbers(ORDINARY)
        first = answers(line)
        self.assertEqual(answers(line), first)

    def test_nothing_is_kept_for_the_next_time(self):
        answers(as_numbers(ORDINARY))
        self.assertEqual(ask(("best",)), [[-11]])
        self.assertEqual(ask(("begin", 4), ("best",)), [[0], [0]])

    def test_the_list_given_back_is_a_new_one(self):
        line = as_numbers(ORDINARY)
        first = answers(line)
        copy = list(first)
        first.clear()
        self.assertEqual(answers(line), copy)

    def test_answers_are_lists_of_plain_whole_numbers(self):
        told = answers(as_numbers(ORDINARY))
        self.assertIs(type(told), list)
        self.assertEqual({type(number) for number in told}, {int})

    def test_four_hundred_calls(self):
        calls = [("begin", 20)] + [("kind", [9] * 8)] * 5 + [("best",)] * 394
        found = ask(*calls)
        self.assertEqual(found[:6], [[0], [0], [1], [2], [3], [4]])
        self.assertEqual(found[6:], [[180, 8, 8, 4, 0, 0]] * 394)

    def test_the_longest_rows_are_read_to_their_end(self):
        found = ask(
            ("begin", 20), ("kind", [LARGEST] * 12), ("value", [LARGEST] * 8), ("kind", [0] * 12), ("kind", [7]),
            ("best",),
        )
        self.assertEqual(found, [[0], [-22], [-22], [-22], [0], [7, 1]])


if __name__ == "__main__":
    unittest.main()
