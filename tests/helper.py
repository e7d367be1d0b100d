"""Calls written by name, and their answers one list each."""

from shelfshares.shop import answers

NAMES = (
    "begin", "kind", "drop", "room", "best", "at", "price", "steps", "value", "worth", "without",
    "would", "seller", "away", "cost", "buy", "cheapest", "two", "upto", "sums", "state",
)
LARGEST = 4294967295


def as_numbers(calls):
    """The one list of whole numbers that these calls make; a call is its name, then numbers and rows."""
    line = []
    for name, *given in calls:
        line.append(NAMES.index(name))
        for value in given:
            if isinstance(value, list):
                line.append(len(value))
                line.extend(value)
            else:
                line.append(value)
    return line


def taken_apart(told):
    """The answers, one list for each call."""
    found = []
    here = 0
    while here < len(told):
        size = told[here]
        if size < 1 or here + 1 + size > len(told):
            raise AssertionError(f"a wrong count at {here}: {told}")
        found.append(told[here + 1:here + 1 + size])
        here += 1 + size
    return found


def ask(*calls):
    """What each of these calls on one new object answers."""
    found = taken_apart(answers(as_numbers(calls)))
    if len(found) != len(calls):
        raise AssertionError(f"{len(calls)} calls, {len(found)} answers")
    return found


def ask_behind(before, *calls):
    """What calls answer behind others, the answers of which are left out."""
    return ask(*before, *calls)[len(before):]


def whole_state():
    """Calls whose answers together show all that is kept."""
    calls = [("state",), ("sums",), ("best",), ("steps",), ("at", 20)]
    for k in range(5):
        for n in range(9):
            calls.append(("worth", k, n))
    return calls
