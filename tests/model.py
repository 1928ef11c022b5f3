"""A capture as the document's words tell it, sharing nothing with the package."""

import struct

# Filters whose programs are known by hand: text, program, meaning.
FILTERS = (
    ("len >= 3", ((1, 0), (0, 3), (4, 5), (8, 0)), lambda row: len(row) >= 3),
    ("[0] = 7", ((0, 0), (2, 1), (0, 7), (4, 0), (8, 0)), lambda row: len(row) > 0 and row[0] == 7),
    ("not [1] < 5", ((0, 1), (2, 1), (0, 5), (4, 2), (5, 0), (8, 0)), lambda row: len(row) > 1 and row[1] >= 5),
    ("[0] = 7 or len = 2", ((0, 0), (2, 1), (0, 7), (4, 0), (7, 3), (1, 0), (0, 2), (4, 0), (8, 0)),
     lambda row: len(row) > 0 and (row[0] == 7 or len(row) == 2)),
    ("1 = 1", ((0, 1), (8, 0)), lambda row: True),
    ("1 = 2", ((0, 0), (8, 0)), lambda row: False),
)


class Refused(Exception):
    pass


def need(holds, number):
    if not holds:
        raise Refused(number)


class Model:
    """Each call has the name that the document gives it."""

    def __init__(self):
        self.fresh(None, None)

    def fresh(self, room, snap):
        self.room, self.snap = room, snap
        self.kept = {}
        self.slots = {}
        self.gated = None
        self.seen = self.refused = self.gone = 0
        self.coming = 1

    def answer(self, name, *handed):
        try:
            return getattr(self, name)(*handed)
        except Refused as refusal:
            return [refusal.args[0]]

    def weight(self):
        return sum(24 + len(row) for time, way, length, row in self.kept.values())

    def shrink(self):
        went = 0
        while self.weight() > self.room:
            del self.kept[min(self.kept)]
            went += 1
        return went

    def filter_in(self, slot):
        need(slot in range(16), -1)
        need(slot in self.slots, -2)
        return self.slots[slot]

    def open(self, room, snap):
        need(2048 <= room <= 16777216 and 1 <= snap <= 1518, -1)
        self.fresh(room, snap)
        return [0]

    def add(self, time, way, frame):
        need(self.room and time < 2 ** 63 and way in (0, 1) and 1 <= len(frame) <= 1518, -1)
        self.seen += 1
        if self.gated is not None and not FILTERS[self.slots[self.gated]][2](frame):
            self.refused += 1
            return [0]
        self.kept[self.coming] = (time, way, len(frame), frame[:self.snap])
        self.coming += 1
        self.gone += self.shrink()
        return [self.coming - 1]

    def counts(self):
        return [0, len(self.kept), self.weight(), self.seen, self.refused, self.gone, self.coming]

    def get(self, number):
        need(number in self.kept, -2)
        time, way, length, row = self.kept[number]
        return [len(row), time, way, length] + row

    def put(self, slot, choice):
        need(self.room and slot in range(16), -1)
        self.slots[slot] = choice
        return [len(FILTERS[choice][1])]

    def program(self, slot):
        program = FILTERS[self.filter_in(slot)][1]
        return [len(program)] + [number for pair in program for number in pair]

    def clear(self, slot):
        self.filter_in(slot)
        need(slot != self.gated, -4)
        del self.slots[slot]
        return [0]

    def gate(self, slot):
        need(self.room, -1)
        if slot != -1:
            self.filter_in(slot)
        self.gated = None if slot == -1 else slot
        return [0]

    def fits(self, slot, frame):
        need(1 <= len(frame) <= 1518, -1)
        return [int(FILTERS[self.filter_in(slot)][2](frame))]

    def fitting(self, slot):
        meaning = FILTERS[self.filter_in(slot)][2]
        return [number for number in sorted(self.kept) if meaning(self.kept[number][3])]

    def find(self, slot, start, most):
        need(0 <= most <= 65536, -1)
        found = [number for number in self.fitting(slot) if number >= start]
        return [len(found)] + found[:most]

    def total(self, slot):
        kept = [self.kept[number] for number in self.fitting(slot)]
        return [len(kept), sum(length for time, way, length, row in kept), sum(len(row) for *rest, row in kept),
                sum(way == 1 for time, way, *rest in kept), max((time for time, *rest in kept), default=0)]

    def dump(self, number):
        need(number in self.kept, -2)
        text = b""
        row = bytes(self.kept[number][3])
        for place in range(0, len(row), 16):
            part = row[place:place + 16]
            shown = "".join(chr(byte) if 32 <= byte <= 126 else "." for byte in part)
            text += ("%04x %s%s  %s\n" % (place, "".join(" %02x" % byte for byte in part),
                                          "   " * (16 - len(part)), shown)).encode()
        return [len(text), *text]

    def save(self):
        file = b"CAPT"
        for number, (time, way, length, row) in sorted(self.kept.items()):
            file += struct.pack(">QQBHH", number, time, way, length, len(row)) + bytes(row)
        return [len(file), *file]

    def restore(self, file):
        need(self.room, -1)
        kept = {}
        rest = bytes(file)
        need(rest[:4] == b"CAPT", -3)
        rest = rest[4:]
        while rest:
            need(len(rest) >= 21, -3)
            number, time, way, length, count = struct.unpack(">QQBHH", rest[:21])
            row = list(rest[21:21 + count])
            need(number > max(kept, default=0) and number < 2 ** 63 and time < 2 ** 63 and way < 2, -3)
            need(1 <= length <= 1518 and length >= count and len(row) == count, -3)
            kept[number] = (time, way, length, row[:self.snap])
            rest = rest[21 + count:]
        self.kept = kept
        self.coming = max(self.coming, max(kept, default=0) + 1)
        self.shrink()
        return [len(self.kept)]
