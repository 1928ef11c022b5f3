"""A dump: lines that show bytes to a reader, as bytes themselves."""

from framekeep.bytewise import digits_of_number

LINE_BYTES = 16
PLACE_DIGITS = 4
BYTE_DIGITS = 2
HEXADECIMAL = "0123456789abcdef"
BLANK = 32
LAST_SHOWN = 126
POINT_BYTE = 46
LINE_FEED = 10


def dump_of(row):
    dump = []
    for place in range(0, len(row), LINE_BYTES):
        dump.extend(line_of(place, row[place:place + LINE_BYTES]))
    return dump


def line_of(place, row):
    line = hexadecimal_of(place, PLACE_DIGITS) + [BLANK]
    for byte in row:
        line.append(BLANK)
        line.extend(hexadecimal_of(byte, BYTE_DIGITS))
    for lacking in range(len(row), LINE_BYTES):
        line.extend([BLANK, BLANK, BLANK])
    line.extend([BLANK, BLANK])
    line.extend([shown(byte) for byte in row])
    line.append(LINE_FEED)
    return line


def hexadecimal_of(number, size):
    return [ord(HEXADECIMAL[digit]) for digit in digits_of_number(number, 16, size)]


def shown(byte):
    return byte if BLANK <= byte <= LAST_SHOWN else POINT_BYTE
