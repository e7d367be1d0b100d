"""The calls about the whole store: each takes it and its numbers, and gives back what is answered."""

from shelfshares.sharing import worth_told


def tell_sums(store, numbers):
    pieces = sum([len(worths) for worths in store.kinds])
    return [0, len(store.kinds), pieces, len(store.sellers), worth_told(store.kinds, store.places)]


def tell_state(store, numbers):
    told = [store.places, len(store.kinds), len(store.sellers)]
    for steps in store.sellers:
        told.append(len(steps))
        for start, asked in steps:
            told.append(start)
            told.append(asked)
    return told


OVERVIEW_CALLS = {
    19: tell_sums,
    20: tell_state,
}
