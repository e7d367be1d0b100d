"""How places are shared by kinds; a kind is the list of what its pieces are worth, the first one first."""


def worth_of_one_more(worths, pieces):
    """What one piece more is worth behind so many; 0, if there's none."""
    if pieces < len(worths):
        return worths[pieces]
    return 0


def kind_to_lay(kinds, sharing):
    """The kind of which one more is worth most, of alike ones the first; None, if there's no piece more."""
    chosen = None
    # Below 0, so that a piece that is worth nothing is laid too.
    most = -1
    for k, worths in enumerate(kinds):
        if sharing[k] < len(worths) and worths[sharing[k]] > most:
            chosen = k
            most = worths[sharing[k]]
    return chosen


def order_told(kinds, places):
    """The kinds in the order in which they fill the places, as long as there's a piece."""
    sharing = [0 for worths in kinds]
    order = []
    while len(order) < places:
        k = kind_to_lay(kinds, sharing)
        if k is None:
            break
        sharing[k] = sharing[k] + 1
        order.append(k)
    return order


def sharing_told(kinds, places):
    """How many pieces of each kind lie on so many places."""
    order = order_told(kinds, places)
    return [order.count(k) for k in range(len(kinds))]


def worth_together(kinds, sharing):
    """What all pieces of a sharing are worth."""
    return sum([sum(worths[:pieces]) for worths, pieces in zip(kinds, sharing)])


def worth_told(kinds, places):
    """What all are worth by the sharing told for so many places."""
    return worth_together(kinds, sharing_told(kinds, places))


def price_of_place(kinds, places):
    """What the next place would be worth; 0, if there's no piece more."""
    sharing = sharing_told(kinds, places)
    k = kind_to_lay(kinds, sharing)
    if k is None:
        return 0
    return worth_of_one_more(kinds[k], sharing[k])


def is_sharing(kinds, sharing):
    """Whether it tells a number for each kind, none more than the kind has."""
    if len(sharing) != len(kinds):
        return False
    return all([pieces <= len(worths) for worths, pieces in zip(kinds, sharing)])
