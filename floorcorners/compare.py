"""LINEs beside one another. The lead of one at n is its value less that of other."""

from floorcorners.corners import lower_corners, upper_corners
from floorcorners.lines import mirrored, normal, raised, value
from floorcorners.sides import first_number_above


def at_most(one, other, stretch):
    """Whether at all n of the STRETCH the value of one is at most that of other."""
    return first_above(one, other, stretch) is None


def same_on(one, other, stretch):
    """Whether both have the same values at all n of the STRETCH."""
    return at_most(one, other, stretch) and at_most(other, one, stretch)


def greatest_lead(one, other, stretch):
    """The greatest lead of one on the STRETCH."""
    return max([height - value(other, n) for n, height in upper_corners(one, stretch)])


def least_lead(one, other, stretch):
    """The least lead of one on the STRETCH."""
    return min([height - value(other, n) for n, height in lower_corners(one, stretch)])


def where_greatest(one, other, stretch):
    """The least n of the STRETCH with the greatest lead of one."""
    return first_above(one, raised(other, greatest_lead(one, other, stretch) - 1), stretch)


def where_least(one, other, stretch):
    """The least n of the STRETCH with the least lead of one."""
    return where_greatest(other, one, stretch)


def first_above(one, other, stretch):
    """The least n of the STRETCH at which the value of one is above that of other; None if there is none."""
    n = first_number_above(one, other, stretch[0])
    return None if n is None or n > stretch[1] else n


def last_above(one, other, stretch):
    """The greatest n of the STRETCH at which the value of one is above that of other; None if there is none."""
    n = first_above(mirrored(one), mirrored(other), (-stretch[1], -stretch[0]))
    return None if n is None else -n


def first_unlike(one, other, stretch):
    """The least n of the STRETCH at which the values are unlike; None if there is none."""
    found = [first_above(one, other, stretch), first_above(other, one, stretch)]
    return min([n for n in found if n is not None], default=None)


def last_unlike(one, other, stretch):
    """The greatest n of the STRETCH at which the values are unlike; None if there is none."""
    found = [last_above(one, other, stretch), last_above(other, one, stretch)]
    return max([n for n in found if n is not None], default=None)


def leads_everywhere(one, other):
    """The least and the greatest lead of one over all whole numbers; None if there are no such ones."""
    a, b, d = normal(one)
    other_a, other_b, other_d = normal(other)
    if (a, d) != (other_a, other_d):
        return None
    # In lowest terms each remainder comes, so the one by which least, or most, is lost does.
    return ((b - other_b) // d, -((other_b - b) // d))


def at_most_everywhere(one, other):
    """Whether at no whole number the value of one is above that of other."""
    leads = leads_everywhere(one, other)
    return leads is not None and leads[1] <= 0
