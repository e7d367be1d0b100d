"""What kinds and sellers both need of rows of values."""


def none_above_the_one_before(numbers):
    return all([after <= before for before, after in zip(numbers, numbers[1:])])


def all_but(row, place):
    """The row without one; those behind it have one number less."""
    return row[:place] + row[place + 1:]
