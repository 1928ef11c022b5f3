"""A capture: the frames that are kept, and the slots with their programs."""

from framekeep.checking import wrong_place
from framekeep.dumps import dump_of
from framekeep.files import file_of_frames, frames_of_file
from framekeep.filters import program_of_text
from framekeep.frames import Frame, MOST_FRAME_BYTES, is_length, is_time, is_way
from framekeep.lexing import CannotGoOn
from framekeep.machine import says_yes

LEAST_ROOM = 2048
MOST_ROOM = 16777216
MOST_TEXT_BYTES = 1024
MOST_FOUND = 65536
SLOTS = 16
NO_GATE = -1

NOT_ALLOWED = -1
NONE_THERE = -2
NO_FILE = -3
IS_GATE = -4
PROGRAM_WRONG = -7
# The place at which a text or program is wrong is taken from this.
WRONG_FROM = -10
# No refusal has this number.
NOT_REFUSED = 0


class Capture:
    """Not open at first. Each call gives back the list of the numbers that it answers."""

    def __init__(self):
        self.make_new(False, 0, 0)

    def make_new(self, opened, room, snap):
        self.opened = opened
        self.room = room
        self.snap = snap
        self.frames = []
        self.weighing = 0
        self.seen = 0
        self.refused = 0
        self.gone = 0
        self.coming_number = 1
        self.slots = [None for slot in range(SLOTS)]
        self.gate = NO_GATE

    def begin(self, room, snap):
        if not LEAST_ROOM <= room <= MOST_ROOM or not 1 <= snap <= MOST_FRAME_BYTES:
            return [NOT_ALLOWED]
        self.make_new(True, room, snap)
        return [0]

    def add_frame(self, time, way, frame):
        if not self.opened or not is_time(time) or not is_way(way) or not is_length(len(frame)):
            return [NOT_ALLOWED]
        self.seen += 1
        if self.gate != NO_GATE and not says_yes(self.slots[self.gate], frame):
            self.refused += 1
            return [0]
        number = self.coming_number
        self.keep(Frame(number, time, way, len(frame), frame))
        self.gone += self.make_room()
        return [number]

    def keep(self, frame):
        kept = frame.shortened(self.snap)
        self.frames.append(kept)
        self.weighing += kept.weight()
        self.coming_number = max(self.coming_number, kept.number + 1)

    def make_room(self):
        """Lets the oldest go as long as all are too heavy; how many went."""
        going = 0
        while self.weighing > self.room:
            self.weighing -= self.frames[going].weight()
            going += 1
        self.frames = self.frames[going:]
        return going

    def tell_counts(self):
        kept = [len(self.frames), self.weighing]
        return [0] + kept + [self.seen, self.refused, self.gone, self.coming_number]

    def frame_of(self, number):
        """The kept frame of that number, or None."""
        for frame in self.frames:
            if frame.number == number:
                return frame
        return None

    def tell_frame(self, number):
        frame = self.frame_of(number)
        if frame is None:
            return [NONE_THERE]
        return [len(frame.kept), frame.time, frame.way, frame.length] + frame.kept

    def compile_text(self, slot, text):
        if not self.opened or not is_slot(slot) or len(text) > MOST_TEXT_BYTES:
            return [NOT_ALLOWED]
        try:
            program = program_of_text(text)
        except CannotGoOn as stop:
            return [WRONG_FROM - stop.place]
        if wrong_place(program) >= 0:
            return [PROGRAM_WRONG]
        self.slots[slot] = program
        return [len(program)]

    def refusal_of(self, slot):
        """Why a call can't have the slot's program; NOT_REFUSED if it can."""
        if not is_slot(slot):
            return NOT_ALLOWED
        if self.slots[slot] is None:
            return NONE_THERE
        return NOT_REFUSED

    def tell_program(self, slot):
        refusal = self.refusal_of(slot)
        if refusal != NOT_REFUSED:
            return [refusal]
        program = self.slots[slot]
        told = [len(program)]
        for instruction in program:
            told.extend(instruction)
        return told

    def load_program(self, slot, numbers):
        if not self.opened or not is_slot(slot) or len(numbers) % 2 != 0:
            return [NOT_ALLOWED]
        program = [(numbers[place], numbers[place + 1]) for place in range(0, len(numbers), 2)]
        wrong = wrong_place(program)
        if wrong >= 0:
            return [WRONG_FROM - wrong]
        self.slots[slot] = program
        return [len(program)]

    def clear_slot(self, slot):
        refusal = self.refusal_of(slot)
        if refusal != NOT_REFUSED:
            return [refusal]
        if slot == self.gate:
            return [IS_GATE]
        self.slots[slot] = None
        return [0]

    def set_gate(self, slot):
        if not self.opened:
            return [NOT_ALLOWED]
        refusal = NOT_REFUSED if slot == NO_GATE else self.refusal_of(slot)
        if refusal != NOT_REFUSED:
            return [refusal]
        self.gate = slot
        return [0]

    def try_frame(self, slot, frame):
        refusal = self.refusal_of(slot) if is_length(len(frame)) else NOT_ALLOWED
        if refusal != NOT_REFUSED:
            return [refusal]
        return [1 if says_yes(self.slots[slot], frame) else 0]

    def fitting(self, slot):
        """The kept frames to which the slot's program says yes, by what is kept of each."""
        program = self.slots[slot]
        return [frame for frame in self.frames if says_yes(program, frame.kept)]

    def find_frames(self, slot, start, most):
        refusal = self.refusal_of(slot) if 0 <= most <= MOST_FOUND else NOT_ALLOWED
        if refusal != NOT_REFUSED:
            return [refusal]
        numbers = [frame.number for frame in self.fitting(slot) if frame.number >= start]
        return [len(numbers)] + numbers[:most]

    def tell_total(self, slot):
        refusal = self.refusal_of(slot)
        if refusal != NOT_REFUSED:
            return [refusal]
        frames = self.fitting(slot)
        length = sum([frame.length for frame in frames])
        kept = sum([len(frame.kept) for frame in frames])
        way = sum([frame.way for frame in frames])
        latest = max([frame.time for frame in frames], default=0)
        return [len(frames), length, kept, way, latest]

    def tell_dump(self, number):
        frame = self.frame_of(number)
        if frame is None:
            return [NONE_THERE]
        dump = dump_of(frame.kept)
        return [len(dump)] + dump

    def tell_file(self):
        file = file_of_frames(self.frames)
        return [len(file)] + file

    def restore_file(self, file):
        if not self.opened:
            return [NOT_ALLOWED]
        frames = frames_of_file(file)
        if frames is None:
            return [NO_FILE]
        self.frames = []
        self.weighing = 0
        for frame in frames:
            self.keep(frame)
        # Those that go here made room for none that was added, so that they aren't counted.
        self.make_room()
        return [len(self.frames)]


def is_slot(slot):
    return 0 <= slot < SLOTS
