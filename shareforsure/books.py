"""Books: the entries of an office, and what they come to."""


def total(books):
    """The sum of the amounts of the entries."""
    return sum([entry[3] for entry in books])


def earned(books):
    """The dict from the houses that have entries to what they have earned."""
    amounts = {}
    for entry in books:
        house = entry[2]
        if house is not None:
            amounts[house] = amounts.get(house, 0) + entry[3]
    return amounts
