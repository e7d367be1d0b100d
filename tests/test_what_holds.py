"""What holds of every sharing, tried on all sharings of many small shelves."""

import itertools
import unittest

from tests.helper import ask_behind


def some_shelves():
    """Sets of kinds: all pairs of short ones, and a few larger ones made by counting."""
    short = [list(worths) for size in (1, 2, 3) for worths in itertools.product((4, 2, 0), repeat=size)
             if list(worths) == sorted(worths, reverse=True)]
    shelves = [[]] + [[one] for one in short] + [[one, other] for one in short for other in short]
    for seed in range(40):
        kinds = []
        for k in range(3 + seed % 3):
            size = 1 + (seed * 5 + k * 3) % 4
            kinds.append(sorted([(seed * 37 + k * 11 + n * 23) % 9 for n in range(size)], reverse=True))
        shelves.append(kinds)
    return shelves


def every_sharing(kinds):
    """Each sharing as how many pieces it has, and what they're worth."""
    found = []
    for sharing in itertools.product(*[range(len(worths) + 1) for worths in kinds]):
        worth = sum(sum(worths[:pieces]) for worths, pieces in zip(kinds, sharing))
        found.append((sum(sharing), worth, list(sharing)))
    return found


def each_shelf():
    """The kinds, and the calls that lay them on a shelf of seven places."""
    return [(kinds, [("begin", 7)] + [("kind", worths) for worths in kinds]) for kinds in some_shelves()]


class WhatHolds(unittest.TestCase):
    def test_by_no_sharing_are_all_worth_more(self):
        for kinds, line in each_shelf():
            told = ask_behind(line, *[("at", r) for r in range(21)])
            sharings = every_sharing(kinds)
            for r, (worth, *sharing) in enumerate(told):
                most = max(value for size, value, other in sharings if size <= r)
                self.assertEqual(worth, most, kinds)
                self.assertIn((min(r, sum(map(len, kinds))), worth, sharing), sharings, kinds)

    def test_each_place_more_is_worth_no_more(self):
        for kinds, line in each_shelf():
            prices = [found[0] for found in ask_behind(line, *[("price", r) for r in range(21)])]
            worth = [found[0] for found in ask_behind(line, *[("at", r) for r in range(21)])]
            self.assertEqual(prices, sorted(prices, reverse=True), kinds)
            self.assertEqual(prices[:20], [worth[r + 1] - worth[r] for r in range(20)], kinds)

    def test_at_its_price_no_sharing_does_better(self):
        for kinds, line in each_shelf():
            sharings = every_sharing(kinds)
            for r in range(21):
                (worth, *sharing), (price,) = ask_behind(line, ("at", r), ("price", r))
                best = max(value - price * size for size, value, other in sharings)
                self.assertEqual(worth - price * sum(sharing), best, kinds)

    def test_the_calls_agree(self):
        for kinds, line in each_shelf():
            best, at, steps = ask_behind(line, ("best",), ("at", 7), ("steps",))
            self.assertEqual(best, at, kinds)
            self.assertEqual(steps[0], len(steps) - 1, kinds)
            self.assertEqual([steps[1:].count(k) for k in range(len(kinds))], best[1:], kinds)
            self.assertEqual(ask_behind(line, ("value", best[1:])), [[best[0], 0]], kinds)
            for k in range(len(kinds)):
                (left, less), gone, there = ask_behind(line, ("without", k), ("drop", k), ("best",))
                self.assertEqual([left, left + less], [there[0], best[0]], kinds)

    def test_value_tells_every_sharing(self):
        for kinds, line in each_shelf():
            sharings = every_sharing(kinds)[:250]
            best = ask_behind(line, ("best",))[0][0]
            found = ask_behind(line, *[("value", sharing) for size, worth, sharing in sharings])
            wanted = [[worth, best - worth] if size <= 7 else [-28] for size, worth, sharing in sharings]
            self.assertEqual(found, wanted, kinds)


if __name__ == "__main__":
    unittest.main()
