"""Calls as they stand in the desk's list, and the answers taken apart again."""

import struct

from framekeep.desk import answers

TOP = 2 ** 64 - 1
ENDS_OF_INT = (-2147483648, 2147483647)
# Loaded ones that say yes and no to every frame.
YES = ((0, 1), (8, 0))
NO = ((0, 0), (8, 0))


def opening(room=2048, snap=1518):
    return [1, room, snap]


def adding(time=0, way=0, frame=(7,)):
    return [2, time, way, len(frame)] + list(frame)


def counting():
    return [3]


def getting(number):
    return [4, number]


def compiling(slot, text):
    codes = list(text if isinstance(text, bytes) else text.encode())
    return [5, slot, len(codes)] + codes


def telling_program(slot):
    return [6, slot]


def loading(slot, instructions):
    return loading_numbers(slot, [number for pair in instructions for number in pair])


def loading_numbers(slot, numbers):
    return [7, slot, len(numbers)] + list(numbers)


def clearing(slot):
    return [8, slot]


def gating(slot):
    return [9, slot]


def fitting(slot, frame):
    return [10, slot, len(frame)] + list(frame)


def finding(slot, start=1, most=65536):
    return [11, slot, start, most]


def totalling(slot):
    return [12, slot]


def dumping(number):
    return [13, number]


def saving():
    return [14]


def restoring(file):
    return [15, len(file)] + list(file)


def frame_bytes(number=1, time=0, way=0, length=1, kept=(7,), count=None):
    """A frame as it stands in a file; count is how many bytes it says are kept."""
    head = struct.pack(">QQBHH", number, time, way, length, len(kept) if count is None else count)
    return list(head) + list(kept)


def file_bytes(*frames):
    return list(b"CAPT") + [byte for frame in frames for byte in frame]


def said(*calls):
    """What is answered to each of the calls, a list for each."""
    told = answers([number for call in calls for number in call])
    parts = []
    while told:
        count = told[0]
        parts.append(told[1:1 + count])
        assert len(parts[-1]) == count
        told = told[1 + count:]
    assert len(parts) == len(calls)
    return parts


def last_said(*calls):
    return said(*calls)[-1]


def asking_all():
    """Calls that tell all that a capture keeps; the gate is told by what becomes of a frame."""
    return [counting(), saving(), *[telling_program(slot) for slot in range(16)], adding(), counting(), saving()]


def changes_nothing(before, call):
    """What is answered to the call, having seen that the capture is the same with it and without."""
    plain = said(*before, *asking_all())[len(before):]
    answer, *told = said(*before, call, *asking_all())[len(before):]
    assert told == plain, (call, told, plain)
    return answer


def pairs(numbers):
    return list(zip(numbers[::2], numbers[1::2]))


def compiled(text):
    """The program of a text as (number, number) pairs."""
    first, *numbers = last_said(opening(), compiling(3, text), telling_program(3))
    program = pairs(numbers)
    assert len(program) == first
    return program


def compile_answer(text):
    return last_said(opening(), compiling(0, text))


def load_answer(instructions):
    return last_said(opening(), loading(0, instructions))
