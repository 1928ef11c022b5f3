"""What two values make. Filters that are reckoned beforehand and programs that run share it."""

VALUE_LIMIT = 18446744073709551616
VALUE_BITS = 64


def total_of(x, y):
    return (x + y) % VALUE_LIMIT


def difference_of(x, y):
    return (x - y) % VALUE_LIMIT


def either_bits(x, y):
    return x | y


def product_of(x, y):
    return x * y % VALUE_LIMIT


def both_bits(x, y):
    return x & y


def shifted_up(x, y):
    # A shift by a huge y would build a number of y bits.
    if y >= VALUE_BITS:
        return 0
    return (x << y) % VALUE_LIMIT


def shifted_down(x, y):
    if y >= VALUE_BITS:
        return 0
    return x >> y


def is_equal(x, y):
    return 1 if x == y else 0


def is_unequal(x, y):
    return 1 if x != y else 0


def is_less(x, y):
    return 1 if x < y else 0


def is_at_most(x, y):
    return 1 if x <= y else 0


def is_more(x, y):
    return 1 if x > y else 0


def is_at_least(x, y):
    return 1 if x >= y else 0


def negated(x):
    return 1 if x == 0 else 0


# The places are the second numbers of the instructions 3 and 4.
OPERATIONS = (total_of, difference_of, either_bits, product_of, both_bits, shifted_up, shifted_down)
COMPARISONS = (is_equal, is_unequal, is_less, is_at_most, is_more, is_at_least)


def operated(choice, x, y):
    return OPERATIONS[choice](x, y)


def compared(choice, x, y):
    return COMPARISONS[choice](x, y)
