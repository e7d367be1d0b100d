"""One list of whole numbers, taken apart into calls."""

# How many whole numbers stand behind the number of each call that has no row.
WHOLE_NUMBERS = {
    0: 1, 2: 1, 3: 1, 4: 0, 5: 1, 6: 1, 7: 0, 9: 2, 10: 1,
    13: 1, 14: 2, 15: 2, 16: 1, 17: 3, 18: 2, 19: 0, 20: 0,
}


def calls_in(calls):
    """Each call as its number and its numbers; these are copies, so that what is handed in stays as it is."""
    found = []
    here = 0
    while here < len(calls):
        number = calls[here]
        here = here + 1
        if number in WHOLE_NUMBERS:
            size = WHOLE_NUMBERS[number]
        else:
            # The others have one row, with how many numbers it has before it.
            size = calls[here]
            here = here + 1
        found.append((number, calls[here:here + size]))
        here = here + size
    return found
