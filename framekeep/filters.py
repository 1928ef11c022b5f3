"""Filters: from a text to its program."""

from framekeep.instructions import END
from framekeep.lexing import CannotGoOn, NUMBER, TEXT_END, tokens_of
from framekeep.pieces import known_piece, length_piece, bytes_piece, operation_piece
from framekeep.pieces import comparison_piece, not_piece, and_piece, or_piece

MOST_BRACKETS = 40
MOST_BYTES_OF_VALUE = 8
KIND_PLACE = 12
KIND_SIZE = 2

# The numbers are those by which the instructions 3 and 4 tell the signs apart.
VALUE_SIGNS = {"+": 0, "-": 1, "|": 2}
TERM_SIGNS = {"*": 3, "&": 4, "<<": 5, ">>": 6}
COMPARISON_SIGNS = {"=": 0, "!=": 1, "<": 2, "<=": 3, ">": 4, ">=": 5}


class Reader:
    """The tokens of a text, how many are read, and how many brackets are open."""

    def __init__(self, tokens):
        self.tokens = tokens
        self.done = 0
        self.brackets = 0

    def coming(self):
        return self.tokens[self.done]

    def take(self):
        token = self.tokens[self.done]
        self.done += 1
        return token

    def take_only(self, sign):
        if self.coming().sign != sign:
            raise CannotGoOn(self.coming().place)
        return self.take()

    def enter_bracket(self):
        if self.brackets == MOST_BRACKETS:
            raise CannotGoOn(self.coming().place)
        self.brackets += 1
        self.take()

    def leave_bracket(self, sign):
        self.take_only(sign)
        self.brackets -= 1


def program_of_text(text):
    """The program of the filter that the text (its bytes) is; CannotGoOn if it is none."""
    reader = Reader(tokens_of(text))
    piece = read_filter(reader)
    reader.take_only(TEXT_END)
    return piece.instructions + [(END, 0)]


# No more than MOST_BRACKETS brackets are open, so that these may call one another.


def read_filter(reader):
    piece = read_tests(reader)
    while reader.coming().sign == "or":
        reader.take()
        piece = or_piece(piece, read_tests(reader))
    return piece


def read_tests(reader):
    piece = read_test(reader)
    while reader.coming().sign == "and":
        reader.take()
        piece = and_piece(piece, read_test(reader))
    return piece


def read_test(reader):
    # There may be hundreds of nots in a row: they are counted, not nested.
    nots = 0
    while reader.coming().sign == "not":
        reader.take()
        nots += 1
    if reader.coming().sign == "(":
        reader.enter_bracket()
        piece = read_filter(reader)
        reader.leave_bracket(")")
    else:
        piece = read_comparison(reader)
    for turn in range(nots):
        piece = not_piece(piece)
    return piece


def read_comparison(reader):
    first = read_value(reader)
    if reader.coming().sign not in COMPARISON_SIGNS:
        raise CannotGoOn(reader.coming().place)
    choice = COMPARISON_SIGNS[reader.take().sign]
    return comparison_piece(choice, first, read_value(reader))


def read_value(reader):
    piece = read_term(reader)
    while reader.coming().sign in VALUE_SIGNS:
        choice = VALUE_SIGNS[reader.take().sign]
        piece = operation_piece(choice, piece, read_term(reader))
    return piece


def read_term(reader):
    piece = read_part(reader)
    while reader.coming().sign in TERM_SIGNS:
        choice = TERM_SIGNS[reader.take().sign]
        piece = operation_piece(choice, piece, read_part(reader))
    return piece


def read_part(reader):
    sign = reader.coming().sign
    if sign == "[":
        return read_bytes(reader)
    if sign == "{":
        return read_braces(reader)
    if sign == NUMBER:
        return known_piece(reader.take().number)
    if sign == "len":
        reader.take()
        return length_piece()
    if sign == "kind":
        reader.take()
        return bytes_piece(known_piece(KIND_PLACE), KIND_SIZE)
    raise CannotGoOn(reader.coming().place)


def read_bytes(reader):
    reader.enter_bracket()
    place = read_value(reader)
    size = 1
    if reader.coming().sign == ":":
        reader.take()
        size = read_size(reader)
    reader.leave_bracket("]")
    return bytes_piece(place, size)


def read_size(reader):
    place = reader.coming().place
    size = reader.take_only(NUMBER).number
    if not 1 <= size <= MOST_BYTES_OF_VALUE:
        raise CannotGoOn(place)
    return size


def read_braces(reader):
    reader.enter_bracket()
    piece = read_value(reader)
    reader.leave_bracket("}")
    return piece
