"""Integers and the values of cells, with True and False kept apart from the integers."""


def is_whole(value):
    """True if the value is an integer."""
    return isinstance(value, int) and not isinstance(value, bool)


def is_within(value, low, high):
    """True if the value is an integer from low to high."""
    return is_whole(value) and low <= value <= high


def is_many(value):
    """True if the value is an integer of at least 0."""
    return is_whole(value) and value >= 0


def is_ascending(numbers):
    """True if each number in a list is greater than the one before it."""
    return all([low < high for low, high in zip(numbers, numbers[1:])])


def is_value(value):
    """True if a cell can hold the value."""
    # Tuples wait in a list, so that deep ones need no deep recursion.
    waiting = [value]
    while waiting:
        part = waiting.pop()
        if isinstance(part, tuple):
            waiting.extend(list(part))
        elif part is not None and not isinstance(part, (bool, int, str)):
            return False
    return True


def is_same(one, other):
    """True if two values of cells are equal."""
    # Python's own == takes True for 1 and False for 0, within tuples too.
    waiting = [(one, other)]
    while waiting:
        left, right = waiting.pop()
        if isinstance(left, tuple) and isinstance(right, tuple):
            if len(left) != len(right):
                return False
            waiting.extend(list(zip(left, right)))
        elif isinstance(left, bool) != isinstance(right, bool) or left != right:
            return False
    return True
