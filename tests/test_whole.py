"""The whole program: random lists of calls, held against the model."""

import random
import unittest

from tests.calls import (adding, clearing, compiling, counting, dumping, file_bytes, finding, fitting, frame_bytes,
                         gating, getting, loading, opening, restoring, said, saving, telling_program, totalling)
from tests.model import FILTERS, Model

MOST_NUMBERS = 16000


class Line:
    """A list of calls as it grows, and what the model answers to them."""

    def __init__(self, seed):
        self.chance = random.Random(seed)
        self.model = Model()
        self.calls = []
        self.meant = []
        self.saved = [file_bytes(), file_bytes(frame_bytes(3, 9, 1, 4, [7, 9]), frame_bytes(5, 8, 0, 60, [])), []]

    def call(self, written, name, *handed):
        if sum(len(call) for call in self.calls) + len(written) <= MOST_NUMBERS:
            self.calls.append(written)
            self.meant.append(self.model.answer(name, *handed))

    def slot(self):
        return self.chance.choice((0, 0, 0, 1, 1, 2, 15, -1, -2, 16))

    def frame(self):
        size = self.chance.choice((1, 2, 3, 16, 33, 300, 300, 0, 1518, 1519))
        return [self.chance.choice((7, 7, 0, 4, 5, 32, 126, 255)) for place in range(size)]

    def number(self):
        return self.chance.choice((self.chance.randrange(-2, 12), self.model.coming - self.chance.randrange(4)))

    def open_some(self):
        room, snap = self.chance.choice((2048, 2048, 3000, 16777216, 2047)), self.chance.choice((1, 2, 40, 1518, 0))
        self.call(opening(room, snap), "open", room, snap)

    def add_some(self):
        time = self.chance.choice((0, 5, 3, self.chance.randrange(2 ** 63), 2 ** 63 - 1, 2 ** 63))
        way, frame = self.chance.choice((0, 1, 1, 0, 2)), self.frame()
        self.call(adding(time, way, frame), "add", time, way, frame)

    def put_some(self):
        slot, choice = self.slot(), self.chance.randrange(len(FILTERS))
        text, program, meaning = FILTERS[choice]
        written = self.chance.choice((compiling(slot, text), loading(slot, program)))
        self.call(written, "put", slot, choice)

    def change_slots(self):
        slot = self.slot()
        self.call(*self.chance.choice(((clearing(slot), "clear", slot), (gating(slot), "gate", slot))))

    def ask_slots(self):
        slot, frame, start = self.slot(), self.frame(), self.number()
        most = self.chance.choice((0, 1, 2, 65536, 65537, -1))
        self.call(*self.chance.choice(((telling_program(slot), "program", slot), (totalling(slot), "total", slot),
                                       (fitting(slot, frame), "fits", slot, frame),
                                       (finding(slot, start, most), "find", slot, start, most))))

    def ask_frames(self):
        number = self.number()
        self.call(*self.chance.choice(((getting(number), "get", number), (dumping(number), "dump", number))))
        self.call(counting(), "counts")

    def save_some(self):
        self.call(saving(), "save")
        self.saved.append(self.model.save()[1:])

    def restore_some(self):
        file = list(self.chance.choice(self.saved[-3:]))
        if file and self.chance.random() < 0.3:
            # Most of these are no file any more.
            file[self.chance.randrange(len(file))] = self.chance.choice((0, 1, 2, 128, 255))
        self.call(restoring(file), "restore", file)

    def grow(self, turns):
        ways = [self.open_some] + [self.add_some] * 12 + [self.put_some] * 4 + [self.change_slots] * 2
        ways += [self.ask_slots] * 8 + [self.ask_frames] * 4 + [self.save_some] * 2 + [self.restore_some] * 2
        if self.chance.random() < 0.9:
            self.call(opening(2048, 40), "open", 2048, 40)
        for turn in range(turns):
            self.chance.choice(ways)()


class Whole(unittest.TestCase):
    def test_random_lists_of_calls(self):
        firsts = {}
        for seed in range(400):
            line = Line(seed)
            line.grow(60)
            for call, told, meant in zip(line.calls, said(*line.calls), line.meant):
                self.assertEqual(told, meant, (seed, call[:5]))
                firsts.setdefault(call[0], set()).add(min(told[0], 1))
        # Each call has been answered in each way that it has.
        self.assertEqual(firsts, {1: {-1, 0}, 2: {-1, 0, 1}, 3: {0}, 4: {-2, 0, 1}, 5: {-1, 1}, 6: {-2, -1, 1},
                                  7: {-1, 1}, 8: {-4, -2, -1, 0}, 9: {-2, -1, 0}, 10: {-2, -1, 0, 1},
                                  11: {-2, -1, 0, 1}, 12: {-2, -1, 0, 1}, 13: {-2, 0, 1}, 14: {1},
                                  15: {-3, -1, 0, 1}})


if __name__ == "__main__":
    unittest.main()
