"""What values are, and the errors that several modules raise for them."""

from anylead.errors import BadNumber, BadPlace


def is_whole(value):
    """Whether the value is an integer; a bool is none."""
    return isinstance(value, int) and not isinstance(value, bool)


def is_row(value):
    return isinstance(value, (list, tuple))


def is_truth(value):
    return value is True or value is False


def is_index(value, many):
    """Whether the value is an integer from 0 to one less than many."""
    return is_whole(value) and 0 <= value < many


def tupled(value):
    """The value with each list in it as a tuple."""
    if not is_row(value):
        return value
    return tuple([tupled(item) for item in value])


def need_whole(what, value):
    if not is_whole(value):
        raise BadNumber(what, value)


def need_from_nought(what, value):
    if not is_whole(value) or value < 0:
        raise BadNumber(what, value)


def need_place(book, place):
    if not is_index(place, book.places):
        raise BadPlace(place)


def need_state(book, place, n):
    need_place(book, place)
    need_whole("count", n)
