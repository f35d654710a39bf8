"""A search that halves what is left again and again."""


def first_that(holds, first, last):
    """The least number for which it holds, last if it does for none ahead of it.

    Where it holds for a number, it has to hold for all numbers behind it, too; the last one is never asked for.
    """
    while first < last:
        middle = (first + last) // 2
        if holds(middle):
            last = middle
        else:
            first = middle + 1
    return first
