"""Calls as they stand in the desk's list, and the answers taken apart again."""

from framekeep.desk import answers

TOP = 2 ** 64 - 1


def opening(room=2048, snap=1518):
    return [1, room, snap]


def adding(time=0, way=0, frame=(7,)):
    return [2, time, way, len(frame)] + list(frame)


def counting():
    return [3]


def getting(number):
    return [4, number]


def compiling(slot, text):
    codes = list(text if isinstance(text, bytes) else text.encode())
    return [5, slot, len(codes)] + codes


def telling_program(slot):
    return [6, slot]


def loading(slot, instructions):
    return loading_numbers(slot, [number for pair in instructions for number in pair])


def loading_numbers(slot, numbers):
    return [7, slot, len(numbers)] + list(numbers)


def clearing(slot):
    return [8, slot]


def said(*calls):
    """What is answered to each of the calls, a list for each."""
    told = answers([number for call in calls for number in call])
    parts = []
    while told:
        count = told[0]
        parts.append(told[1:1 + count])
        assert len(parts[-1]) == count
        told = told[1 + count:]
    assert len(parts) == len(calls)
    return parts


def last_said(*calls):
    return said(*calls)[-1]


def pairs(numbers):
    return list(zip(numbers[::2], numbers[1::2]))


def compiled(text):
    """The program of a text as (number, number) pairs."""
    first, *numbers = last_said(opening(), compiling(3, text), telling_program(3))
    program = pairs(numbers)
    assert len(program) == first
    return program


def compile_answer(text):
    return last_said(opening(), compiling(0, text))


def load_answer(instructions):
    return last_said(opening(), loading(0, instructions))
