"""What holds of every way to buy, tried on all ways at many sellers."""

import itertools
import unittest

from tests.helper import ask_behind

EDGES = (
    [1, 7], [1, 0], [1, 1000], [1, 7, 4, 7, 9, 7], [1, 7, 3, 0], [1, 1000, 60, 1], [1, 1000, 60, 0], [1, 5, 5, 4],
    [1, 9, 2, 8, 3, 7, 4, 6], [1, 10, 5, 8, 10, 5], [1, 100, 20, 40, 40, 15, 60, 9], [1, 6, 20, 1],
)


def some_sellers():
    """The edges, and others made by counting."""
    sellers = [list(steps) for steps in EDGES]
    for seed in range(40):
        size = 1 + seed % 4
        starts = sorted({1} | {2 + (seed * 13 + n * 17) % 59 for n in range(size - 1)})
        prices = sorted([(seed * 31 + n * 7) % 23 for n in starts], reverse=True)
        sellers.append([number for step in zip(starts, prices) for number in step])
    return sellers


def cost_of(steps, n):
    """What n cost by the last step from no more than n on."""
    pairs = [(steps[k], steps[k + 1]) for k in range(0, len(steps), 2)]
    return n * [price for start, price in pairs if start <= n][-1] if n else 0


def costs_of(steps):
    return [cost_of(steps, n) for n in range(61)]


def numbers_where_it_falls(steps):
    return [steps[k] for k in range(2, len(steps), 2) if steps[k + 1] < steps[k - 1]]


def asked_of(sellers, *calls):
    return ask_behind([("begin", 0)] + [("seller", steps) for steps in sellers], *calls)


class OneSeller(unittest.TestCase):
    def test_so_many_cost(self):
        for steps in some_sellers():
            found = asked_of([steps], *[("cost", 0, n) for n in range(61)])
            costs = costs_of(steps)
            self.assertEqual(found, [[cost, cost // n if n else 0] for n, cost in enumerate(costs)], steps)

    def test_nothing_is_cheaper_than_best_bought(self):
        for steps in some_sellers():
            costs = costs_of(steps)
            for n, (best, least, just) in enumerate(asked_of([steps], *[("buy", 0, n) for n in range(61)])):
                self.assertEqual(min((costs[m], m) for m in range(n, 61)), (least, best), steps)
                self.assertEqual(just, costs[n], steps)

    def test_the_cheapest_number_is_what_is_wanted_or_one_where_a_price_falls(self):
        for steps in some_sellers():
            for n, found in enumerate(asked_of([steps], *[("buy", 0, n) for n in range(61)])):
                self.assertIn(found[0], [n] + numbers_where_it_falls(steps), steps)

    def test_to_want_more_is_never_cheaper(self):
        for steps in some_sellers():
            least = [found[1] for found in asked_of([steps], *[("buy", 0, n) for n in range(61)])]
            self.assertEqual(least, sorted(least), steps)

    def test_no_more_for_the_money(self):
        for steps in some_sellers():
            costs = costs_of(steps)
            sums = sorted({max(cost + more, 0) for cost in costs for more in (-1, 0, 1)} & set(range(60001)))
            for money, found in zip(sums, asked_of([steps], *[("upto", 0, money) for money in sums])):
                most = max(n for n, cost in enumerate(costs) if cost <= money)
                self.assertEqual(found, [most, costs[most]], (steps, money))


class SeveralSellers(unittest.TestCase):
    def test_of_two_no_way_is_cheaper(self):
        sellers = some_sellers()[:18]
        for first, second in itertools.product(sellers, sellers):
            of_first = costs_of(first)
            of_second = costs_of(second)
            wanted = (0, 1, 4, 19, 20, 59, 60)
            for n, found in zip(wanted, asked_of([first, second], *[("two", 0, 1, n) for n in wanted])):
                # The fewest of the first, then the least number of the second: just as tuples are ordered.
                ways = [(of_first[a] + of_second[b], a, b) for a in range(61) for b in range(max(n - a, 0), 61)]
                self.assertEqual(found, list(min(ways)), (first, second, n))

    def test_some_cheapest_way_is_of_one_or_at_a_number_where_a_price_falls(self):
        sellers = some_sellers()
        for first, second in zip(sellers, sellers[1:] + sellers[:1]):
            for n, found in enumerate(asked_of([first, second], *[("two", 0, 1, n) for n in range(61)])):
                cost, a, b = found
                self.assertEqual(cost, cost_of(first, a) + cost_of(second, b), (first, second, n))
                self.assertGreaterEqual(a + b, n, (first, second, n))
                plain = a in [0, n] + numbers_where_it_falls(first) or b in [0, n] + numbers_where_it_falls(second)
                self.assertTrue(plain, (first, second, n))

    def test_two_cost_as_much_whichever_is_first(self):
        sellers = some_sellers()
        for first, second in zip(sellers, sellers[1:]):
            there = asked_of([first, second], *[("two", 0, 1, n) for n in range(61)])
            back = asked_of([first, second], *[("two", 1, 0, n) for n in range(61)])
            self.assertEqual([found[0] for found in there], [found[0] for found in back], (first, second))

    def test_cheapest_agrees_with_buy(self):
        sellers = some_sellers()
        for k in range(len(sellers) - 2):
            three = sellers[k:k + 3]
            for n in range(0, 61, 5):
                told, *bought = asked_of(three, ("cheapest", n), *[("buy", s, n) for s in range(3)])
                least = [found[1] for found in bought]
                self.assertEqual(told, [least.index(min(least))] + least, (three, n))


if __name__ == "__main__":
    unittest.main()
