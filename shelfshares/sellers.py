"""The calls about sellers: each takes the store and its numbers, and gives back what is answered."""

from shelfshares.pricing import MOST_BOUGHT, best_bought, best_of_two, costs_of, least_cost, most_for, price_of_piece
from shelfshares.refusals import NONE, NONE_SUCH, OUT_OF_RANGE, TOO_MANY
from shelfshares.rows import all_but, none_above_the_one_before

MOST_SELLERS = 3
MOST_STEPS = 4
MOST_ASKED = 1000
MOST_MONEY = 60000


def are_starts(starts):
    """Whether steps may be from so many on."""
    if starts[0] != 1 or max(starts) > MOST_BOUGHT:
        return False
    return all([after > before for before, after in zip(starts, starts[1:])])


def are_steps(numbers):
    """Whether a seller's steps, one behind another, may be these."""
    if len(numbers) % 2 != 0 or len(numbers) < 2 or len(numbers) > 2 * MOST_STEPS:
        return False
    asked = numbers[1::2]
    if max(asked) > MOST_ASKED or not none_above_the_one_before(asked):
        return False
    return are_starts(numbers[::2])


def add_seller(store, numbers):
    if not are_steps(numbers):
        return [OUT_OF_RANGE]
    if len(store.sellers) == MOST_SELLERS:
        return [TOO_MANY]
    store.sellers.append(list(zip(numbers[::2], numbers[1::2])))
    return [len(store.sellers) - 1]


def send_away(store, numbers):
    s = numbers[0]
    if s >= len(store.sellers):
        return [NONE_SUCH]
    store.sellers = all_but(store.sellers, s)
    return [len(store.sellers)]


def tell_cost(store, numbers):
    s = numbers[0]
    wanted = numbers[1]
    if s >= len(store.sellers):
        return [NONE_SUCH]
    if wanted > MOST_BOUGHT:
        return [OUT_OF_RANGE]
    steps = store.sellers[s]
    return [costs_of(steps)[wanted], price_of_piece(steps, wanted)]


def tell_buy(store, numbers):
    s = numbers[0]
    wanted = numbers[1]
    if s >= len(store.sellers):
        return [NONE_SUCH]
    if wanted > MOST_BOUGHT:
        return [OUT_OF_RANGE]
    costs = costs_of(store.sellers[s])
    return [best_bought(costs, wanted), least_cost(costs, wanted), costs[wanted]]


def tell_cheapest(store, numbers):
    wanted = numbers[0]
    if wanted > MOST_BOUGHT:
        return [OUT_OF_RANGE]
    if len(store.sellers) == 0:
        return [NONE]
    asked = [least_cost(costs_of(steps), wanted) for steps in store.sellers]
    return [asked.index(min(asked))] + asked


def tell_two(store, numbers):
    s = numbers[0]
    t = numbers[1]
    wanted = numbers[2]
    if max(s, t) >= len(store.sellers):
        return [NONE_SUCH]
    if s == t or wanted > MOST_BOUGHT:
        return [OUT_OF_RANGE]
    return best_of_two(costs_of(store.sellers[s]), costs_of(store.sellers[t]), wanted)


def tell_upto(store, numbers):
    s = numbers[0]
    money = numbers[1]
    if s >= len(store.sellers):
        return [NONE_SUCH]
    if money > MOST_MONEY:
        return [OUT_OF_RANGE]
    costs = costs_of(store.sellers[s])
    most = most_for(costs, money)
    return [most, costs[most]]


SELLER_CALLS = {
    12: add_seller,
    13: send_away,
    14: tell_cost,
    15: tell_buy,
    16: tell_cheapest,
    17: tell_two,
    18: tell_upto,
}
