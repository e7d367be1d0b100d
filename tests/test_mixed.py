"""Lists in which all the calls stand mixed."""

import random
import unittest

from tests.helper import LARGEST, NAMES, ask, whole_state

CHANGES = ("begin", "kind", "drop", "room", "seller", "away")

BY_HAND = [
    (("state",), [-11]),
    (("begin", 21), [-22]),
    (("cheapest", 1), [-11]),
    (("begin", 3), [0]),
    (("cheapest", 1), [-6]),
    (("cost", 0, 1), [-2]),
    (("seller", [1, 10, 5, 4]), [0]),
    (("kind", [9, 4, 4]), [0]),
    (("would", [8, 5]), [22, 1, 2]),
    (("seller", [1, 6]), [1]),
    (("kind", [8, 5]), [1]),
    (("sums",), [0, 2, 5, 2, 22]),
    (("two", 0, 1, 4), [20, 5, 0]),
    (("steps",), [3, 0, 1, 1]),
    (("seller", [1, 5, 1, 4]), [-22]),
    (("upto", 0, 23), [5, 20]),
    (("price", 3), [4]),
    (("seller", [1, 9, 60, 0]), [2]),
    (("seller", [1, 1]), [-28]),
    (("cheapest", 2), [2, 20, 12, 0]),
    (("away", 2), [2]),
    (("cheapest", 2), [1, 20, 12]),
    (("buy", 0, 3), [5, 20, 30]),
    (("without", 0), [13, 9]),
    (("drop", 0), [1]),
    (("state",), [3, 1, 2, 2, 1, 10, 5, 4, 1, 1, 6]),
    (("two", 0, 0, 4), [-22]),
    (("two", 2, 0, 61), [-2]),
    (("away", 0), [1]),
    (("cost", 0, 3), [18, 6]),
    (("cost", 1, 3), [-2]),
    (("room", 1), [3]),
    (("would", [7, 7]), [8, 1, 0]),
    (("sums",), [0, 1, 2, 1, 8]),
    (("begin", 21), [-22]),
    (("state",), [1, 1, 1, 1, 1, 6]),
    (("begin", 0), [0]),
    (("state",), [0, 0, 0]),
    (("upto", 0, 5), [-2]),
    (("sums",), [0, 0, 0, 0, 0]),
]


def some_row(chance, size, top):
    """Mostly numbers that fall, at times whatever comes."""
    row = [chance.randint(0, top) for n in range(chance.randint(1, size))]
    if chance.random() < 0.8:
        return sorted(row, reverse=True)
    return row + [chance.choice((0, 1001, LARGEST))]


def some_steps(chance):
    starts = sorted({1} | {chance.randint(2, 61) for n in range(chance.randint(0, 3))})
    prices = some_row(chance, 1, 30) + [chance.randint(0, 30) for start in starts]
    prices = sorted(prices[:len(starts)], reverse=True)
    steps = [number for step in zip(starts, prices) for number in step]
    return steps if chance.random() < 0.9 else steps[1:]


def some_call(chance):
    name = chance.choice(NAMES[1:])
    few = chance.randint(0, 4)
    return {
        "kind": lambda: ("kind", some_row(chance, 8, 20)),
        "would": lambda: ("would", some_row(chance, 8, 20)),
        "value": lambda: ("value", [chance.randint(0, 3) for n in range(few)]),
        "seller": lambda: ("seller", some_steps(chance)),
        "worth": lambda: ("worth", few, chance.randint(0, 8)),
        "cost": lambda: ("cost", few, chance.randint(0, 62)),
        "buy": lambda: ("buy", few, chance.randint(0, 62)),
        "two": lambda: ("two", few, chance.randint(0, 3), chance.randint(0, 62)),
        "upto": lambda: ("upto", few, chance.choice((0, 40, 300, 60000, 60001))),
        "cheapest": lambda: ("cheapest", chance.randint(0, 62)),
        "drop": lambda: ("drop", few),
        "away": lambda: ("away", few),
        "without": lambda: ("without", few),
    }.get(name, lambda: (name, chance.randint(0, 22)) if name in ("room", "at", "price") else (name,))()


def some_lines():
    """Lines of mixed calls, the same each time."""
    found = []
    for seed in range(60):
        chance = random.Random(seed)
        line = [some_call(chance) for n in range(120)]
        line.insert(chance.randint(0, 5), ("begin", chance.randint(0, 20)))
        line.insert(chance.randint(60, 100), ("begin", chance.randint(0, 24)))
        found.append(line)
    return found


class Mixed(unittest.TestCase):
    def test_a_line_by_hand(self):
        self.assertEqual(ask(*[call for call, answer in BY_HAND]), [answer for call, answer in BY_HAND])

    def test_each_call_is_answered_and_refused_somewhere(self):
        answered = set()
        refused = set()
        for line in some_lines():
            for call, answer in zip(line, ask(*line)):
                (refused if answer[0] < 0 else answered).add(call[0])
                self.assertTrue(answer[0] >= 0 or len(answer) == 1, call)
                self.assertGreaterEqual(min(answer[1:], default=0), 0, call)
        self.assertEqual(answered, set(NAMES))
        self.assertEqual(refused, set(NAMES))

    def test_what_is_refused_changes_nothing(self):
        for line in some_lines():
            found = ask(*line)
            kept = [k for k, answer in enumerate(found) if answer[0] >= 0]
            self.assertEqual(ask(*[line[k] for k in kept]), [found[k] for k in kept])

    def test_what_only_tells_changes_nothing(self):
        for line in some_lines():
            found = ask(*line)
            changes = [k for k, call in enumerate(line) if call[0] in CHANGES]
            self.assertEqual(ask(*[line[k] for k in changes]), [found[k] for k in changes])
            there = ask(*line, *whole_state())[len(line):]
            self.assertEqual(ask(*[line[k] for k in changes], *whole_state())[len(changes):], there)

    def test_would_and_without_agree_with_kind_and_drop(self):
        for line in some_lines():
            for worths in ([20, 9, 9], [0], [5, 6]):
                would, number, best = ask(*line, ("would", worths), ("kind", worths), ("best",))[len(line):]
                self.assertEqual(would, best if number[0] >= 0 else number)
                if number[0] >= 0:
                    left = ask(*line, ("kind", worths), ("without", number[0]), ("drop", number[0]), ("best",))[-3:]
                    self.assertEqual(left[0], [left[2][0], best[0] - left[2][0]])


if __name__ == "__main__":
    unittest.main()
