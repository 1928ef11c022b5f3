"""Numbers as rows of bytes or of other digits, the highest first."""

BYTE_LIMIT = 256


def number_of_bytes(row):
    number = 0
    for byte in row:
        number = number * BYTE_LIMIT + byte
    return number


def bytes_of_number(number, size):
    return digits_of_number(number, BYTE_LIMIT, size)


def digits_of_number(number, base, size):
    """The last digits of the number, so many as size says, each as a number below the base."""
    digits = []
    rest = number
    for turn in range(size):
        digits.append(rest % base)
        rest = rest // base
    return list(reversed(digits))
