"""The words and signs of a filter's text."""

from framekeep.reckoning import VALUE_LIMIT

LETTERS_AND_DIGITS = "abcdefghijklmnopqrstuvwxyzABCDEFGHIJKLMNOPQRSTUVWXYZ0123456789"
POINT = "."
BLANKS = " \t\n"
SHORT_SIGNS = "()[]{}:+-|*&=<>"
LONG_SIGNS = ("<<", ">>", "!=", "<=", ">=")
WORDS = ("len", "kind", "and", "or", "not")
HEXADECIMAL_DIGITS = "0123456789abcdef"

# How a token that is not a written sign or word is called.
NUMBER = "number"
TEXT_END = "end"


class CannotGoOn(Exception):
    """The text can't go on at this place."""

    def __init__(self, place):
        self.place = place


class Token:
    """A word, a sign or the text's end: what it is, where it begins, which number it is."""

    def __init__(self, sign, place, number):
        self.sign = sign
        self.place = place
        self.number = number


def tokens_of(codes):
    """The tokens of a text that is given as bytes, the last one being its end."""
    text = as_text(codes)
    tokens = []
    place = 0
    while place < len(text):
        if text[place] in BLANKS:
            place += 1
        else:
            piece = piece_at(text, place)
            tokens.append(token_of(piece, place))
            place += len(piece)
    tokens.append(Token(TEXT_END, len(text), 0))
    return tokens


def as_text(codes):
    """One sign for each byte; those that no filter has become question marks."""
    signs = {}
    for sign in LETTERS_AND_DIGITS + POINT + BLANKS + SHORT_SIGNS + "!":
        signs[ord(sign)] = sign
    return "".join([signs.get(code, "?") for code in codes])


def piece_at(text, place):
    """The longest word or sign that begins at the place."""
    end = place
    while end < len(text) and is_of_word(text[end]):
        end += 1
    if end > place:
        return text[place:end]
    if text[place:place + 2] in LONG_SIGNS:
        return text[place:place + 2]
    return text[place]


def is_of_word(sign):
    return sign in LETTERS_AND_DIGITS or sign == POINT


def token_of(piece, place):
    if piece in LONG_SIGNS or piece in SHORT_SIGNS or piece in WORDS:
        return Token(piece, place, 0)
    number = number_of_word(piece)
    if number < 0:
        raise CannotGoOn(place)
    return Token(NUMBER, place, number)


def number_of_word(word):
    """The number that the word is, or -1."""
    if word.startswith("0x"):
        number = number_of_digits(word[2:], 16)
    elif POINT in word:
        number = number_with_points(word)
    else:
        number = number_of_digits(word, 10)
    return number if number < VALUE_LIMIT else -1


def number_with_points(word):
    parts = word.split(POINT)
    if len(parts) != 4:
        return -1
    number = 0
    for part in parts:
        byte = number_of_digits(part, 10)
        if not 0 <= byte <= 255:
            return -1
        number = number * 256 + byte
    return number


def number_of_digits(digits, base):
    """The number that the digits make, or -1; of too great ones any that is too great."""
    if digits == "":
        return -1
    number = 0
    for sign in digits.lower():
        digit = HEXADECIMAL_DIGITS.find(sign)
        if not 0 <= digit < base:
            return -1
        # Held at the limit, so that a long row of digits makes no huge number.
        number = min(number * base + digit, VALUE_LIMIT)
    return number
