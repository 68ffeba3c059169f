"""What kind of value somebody handed in."""

VALUE_MOST = 999


def is_number(value, low, high):
    """Whether it is a number from low to high."""
    # True and False are integers to Python, but no numbers here.
    return isinstance(value, int) and not isinstance(value, bool) and low <= value <= high


def is_tuple_of(value, many):
    """Whether it is a tuple of so many."""
    return isinstance(value, tuple) and len(value) == many


def is_rising(value, many):
    """Whether it is a tuple of rising numbers, each of them below many."""
    if not isinstance(value, tuple):
        return False
    least = 0
    for number in value:
        if not is_number(number, least, many - 1):
            return False
        least = number + 1
    return True


def are_values(numbers):
    """Whether each is a number that a name can have."""
    return all(is_number(number, 0, VALUE_MOST) for number in numbers)
