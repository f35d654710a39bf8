"""On which side of another LINE a LINE is: the two questions that all others of this kind come down to."""

from floorcorners.lines import moved


def first_number_above(one, other, start):
    """The least n from start on at which the value of one is above that of other; None if there is none."""
    # That is the least n from 0 on with a whole y such that p * n + r <= q * y and d * y <= a * n + b.
    a, b, d = moved(one, start)
    p, r, q = moved(other, start)
    r += 1
    turns = []
    while True:
        # With lean * n + lift off y on both sides, the n stay the same: then 0 <= p < q, -q < r <= 0.
        lean, lift = p // q, -(-r // q)
        p, r = p - lean * q, r - lift * q
        a, b = a - lean * d, b - lift * d
        if b >= 0:
            found = 0
            break
        # Here y can't be below 0, and the upper side is below 0 at n = 0.
        if a <= 0:
            return None
        if p == 0:
            found = -(b // a)
            break
        if a > d:
            found = _first_in_cone((p, r, q), (a, b, d))
            break
        # Both sides rise, by 1 or less: the least n is had with the least y, so n and y change places.
        turns.append((a, b, d))
        p, r, q, a, b, d = d, -b, a, q, -r, p
    for a, b, d in reversed(turns):
        found = -((b - d * found) // a)
    return start + found


def _first_in_cone(lower, upper):
    """The same where lower rises by more than 0 and less than 1, upper by more than 1."""
    p, r, q = lower
    a, b, d = upper
    fall, rise = q - p, a - d
    # With y = n + z, n has to be at least (r - q * z) / fall, which falls with z, and at least
    # (d * z - b) / rise, which grows with z. The best z are the two next to where they meet.
    z = (r * rise + b * fall) // (d * fall + q * rise)
    return min(-((q * z - r) // fall), -((b - d * (z + 1)) // rise))


def part_not_under(one, other, stretch):
    """The part of the STRETCH where (a * n + b) / d of one is not less than that of other; None if there is none."""
    a, b, d = one
    p, r, q = other
    first, last = stretch
    rise = a * q - p * d
    ahead = b * q - r * d
    if rise > 0:
        first = max(first, -(ahead // rise))
    elif rise < 0:
        last = min(last, ahead // -rise)
    elif ahead < 0:
        return None
    return (first, last) if first <= last else None
