"""What the calls on one new object answer."""

from shelfshares.overview import OVERVIEW_CALLS
from shelfshares.reading import calls_in
from shelfshares.refusals import NOT_BEGUN
from shelfshares.sellers import SELLER_CALLS
from shelfshares.shelf import SHELF_CALLS
from shelfshares.store import Store

BEGIN = 0


def answer_to(store, number, numbers):
    """What one call answers, number by number."""
    if number != BEGIN and not store.begun:
        return [NOT_BEGUN]
    if number in SHELF_CALLS:
        return SHELF_CALLS[number](store, numbers)
    if number in SELLER_CALLS:
        return SELLER_CALLS[number](store, numbers)
    return OVERVIEW_CALLS[number](store, numbers)


def answers(calls):
    """For each call how many numbers are answered, then these."""
    store = Store()
    told = []
    for number, numbers in calls_in(calls):
        answer = answer_to(store, number, numbers)
        told.append(len(answer))
        told.extend(answer)
    return told
