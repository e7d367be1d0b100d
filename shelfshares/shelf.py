"""The calls about places and kinds: each takes the store and its numbers, and gives back what is answered."""

from shelfshares.refusals import NONE_SUCH, OUT_OF_RANGE, TOO_MANY
from shelfshares.rows import all_but, none_above_the_one_before
from shelfshares.sharing import is_sharing, order_told, price_of_place, sharing_told
from shelfshares.sharing import worth_of_one_more, worth_together, worth_told

MOST_PLACES = 20
MOST_KINDS = 5
MOST_PIECES = 8
MOST_WORTH = 1000


def are_worths(worths):
    """Whether a kind's pieces may be worth this."""
    if len(worths) < 1 or len(worths) > MOST_PIECES:
        return False
    if max(worths) > MOST_WORTH:
        return False
    return none_above_the_one_before(worths)


def begin(store, numbers):
    places = numbers[0]
    if places > MOST_PLACES:
        return [OUT_OF_RANGE]
    store.begun = True
    store.places = places
    store.kinds = []
    store.sellers = []
    return [0]


def refusal_of_kind(kinds, worths):
    """Why there can't be such a kind more; None, if there can."""
    if not are_worths(worths):
        return OUT_OF_RANGE
    if len(kinds) == MOST_KINDS:
        return TOO_MANY
    return None


def add_kind(store, numbers):
    refusal = refusal_of_kind(store.kinds, numbers)
    if refusal is not None:
        return [refusal]
    store.kinds.append(numbers)
    return [len(store.kinds) - 1]


def drop_kind(store, numbers):
    k = numbers[0]
    if k >= len(store.kinds):
        return [NONE_SUCH]
    store.kinds = all_but(store.kinds, k)
    return [len(store.kinds)]


def change_room(store, numbers):
    places = numbers[0]
    if places > MOST_PLACES:
        return [OUT_OF_RANGE]
    before = store.places
    store.places = places
    return [before]


def worth_and_sharing(kinds, places):
    """What all are worth by the sharing told, then that sharing."""
    return [worth_told(kinds, places)] + sharing_told(kinds, places)


def tell_best(store, numbers):
    return worth_and_sharing(store.kinds, store.places)


def tell_at(store, numbers):
    places = numbers[0]
    if places > MOST_PLACES:
        return [OUT_OF_RANGE]
    return worth_and_sharing(store.kinds, places)


def tell_price(store, numbers):
    places = numbers[0]
    if places > MOST_PLACES:
        return [OUT_OF_RANGE]
    return [price_of_place(store.kinds, places)]


def tell_steps(store, numbers):
    order = order_told(store.kinds, store.places)
    return [len(order)] + order


def tell_value(store, numbers):
    if not is_sharing(store.kinds, numbers):
        return [OUT_OF_RANGE]
    if sum(numbers) > store.places:
        return [TOO_MANY]
    together = worth_together(store.kinds, numbers)
    return [together, worth_told(store.kinds, store.places) - together]


def tell_worth(store, numbers):
    k = numbers[0]
    pieces = numbers[1]
    if k >= len(store.kinds):
        return [NONE_SUCH]
    worths = store.kinds[k]
    if pieces > len(worths):
        return [OUT_OF_RANGE]
    return [sum(worths[:pieces]), worth_of_one_more(worths, pieces)]


def tell_without(store, numbers):
    k = numbers[0]
    if k >= len(store.kinds):
        return [NONE_SUCH]
    left = worth_told(all_but(store.kinds, k), store.places)
    return [left, worth_told(store.kinds, store.places) - left]


def tell_would(store, numbers):
    refusal = refusal_of_kind(store.kinds, numbers)
    if refusal is not None:
        return [refusal]
    return worth_and_sharing(store.kinds + [numbers], store.places)


SHELF_CALLS = {
    0: begin,
    1: add_kind,
    2: drop_kind,
    3: change_room,
    4: tell_best,
    5: tell_at,
    6: tell_price,
    7: tell_steps,
    8: tell_value,
    9: tell_worth,
    10: tell_without,
    11: tell_would,
}
