"""Looks at values of any kind; nothing here raises an error for any of them."""

ALPHABET = "abcdefghijklmnopqrstuvwxyz"


def is_integer(thing):
    """Whether a value is an integer; True and False are none."""
    return isinstance(thing, int) and not isinstance(thing, bool)


def is_number(thing):
    """Whether a value is an integer from 0 on."""
    return is_integer(thing) and thing >= 0


def is_from_one(thing):
    """Whether a value is an integer from 1 on."""
    return is_number(thing) and thing > 0


def is_index(thing, many):
    """Whether a value is an integer from 0 on and below a number, as the states of rules are."""
    return is_number(thing) and thing < many


def is_tuple_of(thing, many):
    """Whether a value is a tuple with so many items."""
    return isinstance(thing, tuple) and len(thing) == many


def is_text(thing, letters):
    """Whether a value is a string of some letters, perhaps empty."""
    if not isinstance(thing, str):
        return False
    for letter in thing:
        if letter not in letters:
            return False
    return True


def is_letter(thing, letters):
    """Whether a value is one of some letters."""
    return is_text(thing, letters) and len(thing) == 1


def is_ascending(things):
    """Whether values that Python can compare are sorted, without duplicates."""
    for place in range(1, len(things)):
        if not things[place - 1] < things[place]:
            return False
    return True


def are_letters(thing):
    """Whether a value is an ascending string of one letter or more."""
    return is_text(thing, ALPHABET) and thing != "" and is_ascending(thing)


def is_indexes(thing, many):
    """Whether a value is an ascending tuple of integers from 0 on and below a number."""
    if not isinstance(thing, tuple):
        return False
    for index in thing:
        if not is_index(index, many):
            return False
    return is_ascending(thing)
