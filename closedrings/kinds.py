"""What kind of value a thing is, in the words of the document."""


def is_int(thing):
    # Python counts True and False among its ints, the document does not.
    return isinstance(thing, int) and not isinstance(thing, bool)


def is_list_or_tuple(thing):
    return isinstance(thing, (list, tuple))
