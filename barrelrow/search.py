"""A search by halves."""


def first_number(low, high, holds):
    """Return the first number, from `low` to below `high`, for which something holds, or `high`.

    What holds for a number holds for all greater ones.
    """
    while low < high:
        middle = (low + high) // 2
        if holds(middle):
            high = middle
        else:
            low = middle + 1
    return low
