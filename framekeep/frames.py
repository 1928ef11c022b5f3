"""Frames that are kept, and what of a frame may be."""

MOST_FRAME_BYTES = 1518
TIME_LIMIT = 9223372036854775808
EXTRA_WEIGHT = 24


class Frame:
    """A kept frame: its number, time and way, how long it was, and the bytes kept of it."""

    def __init__(self, number, time, way, length, kept):
        self.number = number
        self.time = time
        self.way = way
        self.length = length
        self.kept = kept

    def weight(self):
        return len(self.kept) + EXTRA_WEIGHT

    def shortened(self, snap):
        """The same one with no more than its first snap bytes."""
        return Frame(self.number, self.time, self.way, self.length, self.kept[:snap])


def is_time(time):
    return 0 <= time < TIME_LIMIT


def is_way(way):
    return way in (0, 1)


def is_length(length):
    return 1 <= length <= MOST_FRAME_BYTES
