"""The small machine: what a checked program says of a frame."""

from framekeep.bytewise import number_of_bytes
from framekeep.instructions import PUT, PUT_LENGTH, TAKE_BYTES, OPERATE, COMPARE, NEGATE
from framekeep.instructions import LEAVE_OUT_IF_NO, LEAVE_OUT_IF_YES, END
from framekeep.reckoning import operated, compared, negated


def says_yes(program, frame):
    """Whether the program says yes to the frame. The program has passed the check."""
    values = []
    place = 0
    while program[place][0] != END:
        instruction = program[place]
        if lacks_bytes(instruction, values, frame):
            return False
        place += 1
        if leaves_out(instruction, values):
            place += instruction[1]
        else:
            do_instruction(instruction, values, frame)
    return values[-1] != 0


def lacks_bytes(instruction, values, frame):
    return instruction[0] == TAKE_BYTES and values[-1] + instruction[1] > len(frame)


def leaves_out(instruction, values):
    if instruction[0] == LEAVE_OUT_IF_NO:
        return values[-1] == 0
    return instruction[0] == LEAVE_OUT_IF_YES and values[-1] != 0


def do_instruction(instruction, values, frame):
    """Changes the values as the instruction does where it leaves nothing out."""
    code = instruction[0]
    number = instruction[1]
    if code == PUT:
        values.append(number)
    elif code == PUT_LENGTH:
        values.append(len(frame))
    elif code == TAKE_BYTES:
        start = values.pop()
        values.append(number_of_bytes(frame[start:start + number]))
    elif code == OPERATE:
        y = values.pop()
        values.append(operated(number, values.pop(), y))
    elif code == COMPARE:
        y = values.pop()
        values.append(compared(number, values.pop(), y))
    elif code == NEGATE:
        values.append(negated(values.pop()))
    else:
        values.pop()
