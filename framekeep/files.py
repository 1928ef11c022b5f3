"""A file: kept frames as bytes, and back."""

from framekeep.bytewise import bytes_of_number, number_of_bytes
from framekeep.frames import Frame, is_length, is_time, is_way

BEGINNING = (67, 65, 80, 84)
NUMBER_LIMIT = 9223372036854775808

# Where each part of a frame's bytes begins, counted from the first of them.
TIME_AT = 8
WAY_AT = 16
LENGTH_AT = 17
COUNT_AT = 19
KEPT_AT = 21


def file_of_frames(frames):
    file = list(BEGINNING)
    for frame in frames:
        file.extend(bytes_of_number(frame.number, TIME_AT))
        file.extend(bytes_of_number(frame.time, WAY_AT - TIME_AT))
        file.append(frame.way)
        file.extend(bytes_of_number(frame.length, COUNT_AT - LENGTH_AT))
        file.extend(bytes_of_number(len(frame.kept), KEPT_AT - COUNT_AT))
        file.extend(frame.kept)
    return file


def frames_of_file(file):
    """The frames of a file, or None if the bytes are no file."""
    if file[:len(BEGINNING)] != list(BEGINNING):
        return None
    frames = []
    place = len(BEGINNING)
    number = 0
    while place < len(file):
        frame = frame_at(file, place)
        if frame is None or frame.number <= number:
            return None
        frames.append(frame)
        number = frame.number
        place += KEPT_AT + len(frame.kept)
    return frames


def frame_at(file, place):
    """The frame whose bytes begin at the place, or None if they aren't all there or none has such."""
    start = place + KEPT_AT
    if start > len(file):
        return None
    number = number_of_bytes(file[place:place + TIME_AT])
    time = number_of_bytes(file[place + TIME_AT:place + WAY_AT])
    way = file[place + WAY_AT]
    length = number_of_bytes(file[place + LENGTH_AT:place + COUNT_AT])
    count = number_of_bytes(file[place + COUNT_AT:start])
    if number >= NUMBER_LIMIT or not is_time(time) or not is_way(way):
        return None
    if not is_length(length) or length < count or start + count > len(file):
        return None
    return Frame(number, time, way, length, file[start:start + count])
