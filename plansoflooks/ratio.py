"""Fractions, told as two whole numbers with nothing in common."""


def common_divisor(left, right):
    """The greatest number that divides both; neither is below 0, and one is above it."""
    while right > 0:
        rest = left % right
        left = right
        right = rest
    return left


def fraction(above, below):
    """The two numbers of above by below, where below is 1 or more."""
    divisor = common_divisor(abs(above), below)
    return [above // divisor, below // divisor]
