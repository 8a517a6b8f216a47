"""Exact numbers: whole ones, and fractions as pairs of a whole number and one above 0."""

NOUGHT = (0, 1)


def is_whole(thing):
    # To Python True and False are ints, but here they are no whole numbers.
    return isinstance(thing, int) and not isinstance(thing, bool)


def is_between(thing, least, most):
    return is_whole(thing) and least <= thing <= most


def common_divisor(one, other):
    one = abs(one)
    other = abs(other)
    while other != 0:
        rest = one % other
        one = other
        other = rest
    return one


def fraction(top, bottom):
    divisor = common_divisor(top, bottom)
    return (top // divisor, bottom // divisor)


def is_fraction(thing):
    if not isinstance(thing, tuple) or len(thing) != 2:
        return False
    if not is_whole(thing[0]) or not is_whole(thing[1]):
        return False
    return thing[1] > 0 and common_divisor(thing[0], thing[1]) == 1


def are_from_nought(things):
    for thing in things:
        if not is_fraction(thing) or thing[0] < 0:
            return False
    return True


def is_less(one, other):
    return one[0] * other[1] < other[0] * one[1]


def plus(one, other):
    return fraction(one[0] * other[1] + other[0] * one[1], one[1] * other[1])


def weighed(numbers, wholes):
    # The sum of each fraction times the whole number that stands for it.
    total = NOUGHT
    for number, whole in zip(numbers, wholes):
        total = plus(total, (number[0] * whole, number[1]))
    return total
