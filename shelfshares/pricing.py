"""What sellers ask.

A seller is the list of its steps: from how many on, how much a piece costs. Costs are what 0, 1 and so on up to
the most that may be bought cost at one seller.
"""

MOST_BOUGHT = 60


def price_of_piece(steps, bought):
    """What each of so many costs; 0 of 0, since no step is from 0 on."""
    price = 0
    for start, asked in steps:
        if start <= bought:
            price = asked
    return price


def costs_of(steps):
    return [bought * price_of_piece(steps, bought) for bought in range(MOST_BOUGHT + 1)]


def best_bought(costs, wanted):
    """As many as cost least when so many are wanted; of alike ones the least number."""
    enough = costs[wanted:]
    return wanted + enough.index(min(enough))


def least_cost(costs, wanted):
    return costs[best_bought(costs, wanted)]


def best_of_two(first, second, wanted):
    """What's best bought of both costs, how many are of the first, how many of the second."""
    # More of the first than are wanted may cost less; then nothing is wanted of the second.
    rests = [max(wanted - bought, 0) for bought in range(len(first))]
    together = [cost + least_cost(second, rest) for cost, rest in zip(first, rests)]
    of_first = together.index(min(together))
    return [together[of_first], of_first, best_bought(second, rests[of_first])]


def most_for(costs, money):
    """The most pieces that cost no more than the money."""
    most = 0
    # Through all, since more may cost less.
    for bought, cost in enumerate(costs):
        if cost <= money:
            most = bought
    return most
