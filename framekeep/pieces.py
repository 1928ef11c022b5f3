"""Pieces of a filter's program, put together from within; what is known is reckoned beforehand."""

from framekeep.instructions import PUT, PUT_LENGTH, TAKE_BYTES, OPERATE, COMPARE, NEGATE
from framekeep.instructions import LEAVE_OUT_IF_NO, LEAVE_OUT_IF_YES
from framekeep.reckoning import operated, compared, negated


class Piece:
    """The instructions of a value or test, and its outcome if that is known (else None).

    Of a test the outcome is 1 for yes and 0 for no.
    """

    def __init__(self, outcome, instructions):
        self.outcome = outcome
        self.instructions = instructions


def known_piece(outcome):
    return Piece(outcome, [(PUT, outcome)])


def length_piece():
    return Piece(None, [(PUT_LENGTH, 0)])


def bytes_piece(place, size):
    return Piece(None, place.instructions + [(TAKE_BYTES, size)])


def are_known(first, second):
    return first.outcome is not None and second.outcome is not None


def operation_piece(choice, first, second):
    if are_known(first, second):
        return known_piece(operated(choice, first.outcome, second.outcome))
    return Piece(None, first.instructions + second.instructions + [(OPERATE, choice)])


def comparison_piece(choice, first, second):
    if are_known(first, second):
        return known_piece(compared(choice, first.outcome, second.outcome))
    return Piece(None, first.instructions + second.instructions + [(COMPARE, choice)])


def not_piece(test):
    if test.outcome is not None:
        return known_piece(negated(test.outcome))
    return Piece(None, test.instructions + [(NEGATE, 0)])


def and_piece(first, second):
    if first.outcome is not None:
        return first if first.outcome == 0 else second
    return joined_piece(LEAVE_OUT_IF_NO, first, second)


def or_piece(first, second):
    if first.outcome is not None:
        return second if first.outcome == 0 else first
    return joined_piece(LEAVE_OUT_IF_YES, first, second)


def joined_piece(code, first, second):
    between = [(code, len(second.instructions))]
    return Piece(None, first.instructions + between + second.instructions)
