"""Promise 13: dump."""

import unittest

from tests.calls import (ENDS_OF_INT, adding, changes_nothing, dumping, file_bytes, frame_bytes, getting, last_said,
                         opening, restoring, said)


def text_of(answer):
    count, *codes = answer
    assert count == len(codes)
    return bytes(codes).decode("latin-1")


def dump_text(frame, snap=1518):
    return text_of(last_said(opening(4096, snap), adding(0, 0, frame), dumping(1)))


def lines_meant(row):
    """The lines as they are told, each put together from fields of fixed width."""
    text = ""
    for place in range(0, len(row), 16):
        part = bytes(row[place:place + 16])
        signs = "".join(chr(byte) if 32 <= byte <= 126 else "." for byte in part)
        text += f"{place:04x} " + (" " + part.hex(" ")).ljust(48) + f"  {signs}\n"
    return text


class Dumping(unittest.TestCase):
    def test_one_byte(self):
        self.assertEqual(dump_text([65]), "0000  41" + " " * 45 + "  A\n")

    def test_fifteen_bytes(self):
        self.assertEqual(dump_text(list(b"abcdefghijklmno")),
                         "0000  61 62 63 64 65 66 67 68 69 6a 6b 6c 6d 6e 6f     abcdefghijklmno\n")

    def test_sixteen_bytes(self):
        self.assertEqual(dump_text(list(b"abcdefghijklmnop")),
                         "0000  61 62 63 64 65 66 67 68 69 6a 6b 6c 6d 6e 6f 70  abcdefghijklmnop\n")

    def test_seventeen_bytes(self):
        self.assertEqual(dump_text(list(b"abcdefghijklmnopq")),
                         "0000  61 62 63 64 65 66 67 68 69 6a 6b 6c 6d 6e 6f 70  abcdefghijklmnop\n"
                         "0010  71" + " " * 45 + "  q\n")

    def test_thirty_two_bytes(self):
        self.assertEqual(dump_text(list(range(80, 112))),
                         "0000  50 51 52 53 54 55 56 57 58 59 5a 5b 5c 5d 5e 5f  PQRSTUVWXYZ[\\]^_\n"
                         "0010  60 61 62 63 64 65 66 67 68 69 6a 6b 6c 6d 6e 6f  `abcdefghijklmno\n")

    def test_bytes_that_are_shown_and_others(self):
        self.assertEqual(dump_text([31, 32, 126, 127, 0, 10, 128, 255]),
                         "0000  1f 20 7e 7f 00 0a 80 ff" + " " * 24 + "  . ~.....\n")

    def test_every_byte(self):
        self.assertEqual(dump_text(list(range(256))), lines_meant(list(range(256))))

    def test_the_longest(self):
        frame = [place * 7 % 256 for place in range(1518)]
        self.assertEqual(dump_text(frame), lines_meant(frame))
        self.assertEqual(dump_text(frame).split("\n")[-2][:4], "05e0")

    def test_only_what_is_kept(self):
        self.assertEqual(dump_text([1, 2, 3], 2), lines_meant([1, 2]))

    def test_no_byte_is_kept(self):
        told = said(opening(), restoring(file_bytes(frame_bytes(4, kept=[]))), dumping(4), getting(4))
        self.assertEqual(told[1:], [[1], [0], [0, 0, 0, 1]])

    def test_one_of_several(self):
        told = last_said(opening(), adding(0, 0, [1]), adding(0, 0, [2]), adding(0, 0, [3]), dumping(2))
        self.assertEqual(text_of(told), lines_meant([2]))

    def test_none_there(self):
        for number in (-2, -1, 0, 2) + ENDS_OF_INT:
            self.assertEqual(last_said(opening(), adding(), dumping(number)), [-2], number)

    def test_one_that_is_gone(self):
        self.assertEqual(last_said(opening(), adding(0, 0, [1] * 1518), adding(0, 0, [1] * 1518), dumping(1)), [-2])

    def test_not_open(self):
        self.assertEqual(said(dumping(1), dumping(0)), [[-2], [-2]])

    def test_it_changes_nothing(self):
        self.assertEqual(changes_nothing([opening(), adding()], dumping(2)), [-2])
        self.assertEqual(changes_nothing([opening(), adding()], dumping(1))[0], 57)


if __name__ == "__main__":
    unittest.main()
