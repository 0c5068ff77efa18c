"""What whole numbers have in common."""


def common_divisor(one, other):
    """The greatest whole number that divides both, which are from 0 on and not both 0."""
    while other > 0:
        one, other = other, one % other
    return one
