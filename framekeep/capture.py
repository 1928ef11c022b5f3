"""A capture: the frames that are kept, and the slots with their programs."""

from framekeep.checking import wrong_place
from framekeep.filters import program_of_text
from framekeep.lexing import CannotGoOn
from framekeep.machine import says_yes

LEAST_ROOM = 2048
MOST_ROOM = 16777216
MOST_FRAME_BYTES = 1518
MOST_TEXT_BYTES = 1024
TIME_LIMIT = 9223372036854775808
EXTRA_WEIGHT = 24
SLOTS = 16
NO_GATE = -1

NOT_ALLOWED = -1
NONE_THERE = -2
IS_GATE = -4
PROGRAM_WRONG = -7
# The place at which a text or program is wrong is taken from this.
WRONG_FROM = -10


class Frame:
    """A kept frame: its number, time and way, how long it was, and the bytes kept of it."""

    def __init__(self, number, time, way, length, kept):
        self.number = number
        self.time = time
        self.way = way
        self.length = length
        self.kept = kept

    def weight(self):
        return len(self.kept) + EXTRA_WEIGHT


class Capture:
    """Not open at first. Each call gives back the list of the numbers that it answers."""

    def __init__(self):
        self.make_new(False, 0, 0)

    def make_new(self, opened, room, snap):
        self.opened = opened
        self.room = room
        self.snap = snap
        self.frames = []
        self.weighing = 0
        self.seen = 0
        self.refused = 0
        self.gone = 0
        self.coming_number = 1
        self.slots = [None for slot in range(SLOTS)]
        self.gate = NO_GATE

    def begin(self, room, snap):
        if not LEAST_ROOM <= room <= MOST_ROOM or not 1 <= snap <= MOST_FRAME_BYTES:
            return [NOT_ALLOWED]
        self.make_new(True, room, snap)
        return [0]

    def add_frame(self, time, way, frame):
        if not self.opened or not 0 <= time < TIME_LIMIT or way not in (0, 1):
            return [NOT_ALLOWED]
        if not 1 <= len(frame) <= MOST_FRAME_BYTES:
            return [NOT_ALLOWED]
        self.seen += 1
        if self.gate != NO_GATE and not says_yes(self.slots[self.gate], frame):
            self.refused += 1
            return [0]
        number = self.coming_number
        self.coming_number += 1
        self.keep(Frame(number, time, way, len(frame), frame[:self.snap]))
        self.gone += self.make_room()
        return [number]

    def keep(self, frame):
        self.frames.append(frame)
        self.weighing += frame.weight()

    def make_room(self):
        """Lets the oldest go as long as all are too heavy; how many went."""
        going = 0
        while self.weighing > self.room:
            self.weighing -= self.frames[going].weight()
            going += 1
        self.frames = self.frames[going:]
        return going

    def tell_counts(self):
        kept = [len(self.frames), self.weighing]
        return [0] + kept + [self.seen, self.refused, self.gone, self.coming_number]

    def tell_frame(self, number):
        for frame in self.frames:
            if frame.number == number:
                return [len(frame.kept), frame.time, frame.way, frame.length] + frame.kept
        return [NONE_THERE]

    def compile_text(self, slot, text):
        if not self.opened or not is_slot(slot) or len(text) > MOST_TEXT_BYTES:
            return [NOT_ALLOWED]
        try:
            program = program_of_text(text)
        except CannotGoOn as stop:
            return [WRONG_FROM - stop.place]
        if wrong_place(program) >= 0:
            return [PROGRAM_WRONG]
        self.slots[slot] = program
        return [len(program)]

    def tell_program(self, slot):
        if not is_slot(slot):
            return [NOT_ALLOWED]
        program = self.slots[slot]
        if program is None:
            return [NONE_THERE]
        told = [len(program)]
        for instruction in program:
            told.extend(instruction)
        return told

    def load_program(self, slot, numbers):
        if not self.opened or not is_slot(slot) or len(numbers) % 2 != 0:
            return [NOT_ALLOWED]
        program = [(numbers[place], numbers[place + 1]) for place in range(0, len(numbers), 2)]
        wrong = wrong_place(program)
        if wrong >= 0:
            return [WRONG_FROM - wrong]
        self.slots[slot] = program
        return [len(program)]

    def clear_slot(self, slot):
        if not is_slot(slot):
            return [NOT_ALLOWED]
        if self.slots[slot] is None:
            return [NONE_THERE]
        if slot == self.gate:
            return [IS_GATE]
        self.slots[slot] = None
        return [0]


def is_slot(slot):
    return 0 <= slot < SLOTS
