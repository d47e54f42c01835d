"""What kind of value a thing is, in the words of the document."""


def is_int(thing):
    # Python counts True and False among its ints, the document does not.
    return isinstance(thing, int) and not isinstance(thing, bool)


def is_list_or_tuple(thing):
    return isinstance(thing, (list, tuple))


def is_rising(row):
    """Whether each of a row's values, which can be compared, is below the next."""
    return all([one < other for one, other in zip(row, row[1:])])
