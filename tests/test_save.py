"""Promise 14: save."""

import unittest

from tests.calls import (NO, adding, changes_nothing, file_bytes, frame_bytes, gating, last_said, loading, opening,
                         restoring, said, saving)


def saved(*calls):
    count, *file = last_said(*calls, saving())
    assert count == len(file)
    return file


class Saving(unittest.TestCase):
    def test_no_frame(self):
        self.assertEqual(last_said(opening(), saving()), [4, 67, 65, 80, 84])

    def test_not_open(self):
        self.assertEqual(said(saving()), [[4, 67, 65, 80, 84]])

    def test_one_frame_byte_by_byte(self):
        told = last_said(opening(2048, 2), adding(0x0102030405060708, 1, [9, 8, 7] * 100), saving())
        self.assertEqual(told, [27, 67, 65, 80, 84, 0, 0, 0, 0, 0, 0, 0, 1, 1, 2, 3, 4, 5, 6, 7, 8, 1,
                                1, 44, 0, 2, 9, 8])

    def test_several_in_order(self):
        told = saved(opening(), adding(300, 0, [1]), adding(2 ** 63 - 1, 1, [2, 3]), adding(0, 0, [4]))
        self.assertEqual(told, file_bytes(frame_bytes(1, 300, 0, 1, [1]), frame_bytes(2, 2 ** 63 - 1, 1, 2, [2, 3]),
                                          frame_bytes(3, 0, 0, 1, [4])))

    def test_the_longest_frame(self):
        frame = [place % 256 for place in range(1518)]
        self.assertEqual(saved(opening(), adding(5, 1, frame)), file_bytes(frame_bytes(1, 5, 1, 1518, frame)))

    def test_only_those_that_are_kept(self):
        told = saved(opening(), adding(1, 0, [1] * 1500), adding(2, 0, [2] * 1500), loading(0, NO), gating(0), adding())
        self.assertEqual(told, file_bytes(frame_bytes(2, 2, 0, 1500, [2] * 1500)))

    def test_numbers_of_eight_bytes(self):
        file = file_bytes(frame_bytes(0x0102030405060708, 3, 1, 1, [5]))
        told = saved(opening(), restoring(file), adding())
        self.assertEqual(told, file + frame_bytes(0x0102030405060709))

    def test_saving_changes_nothing(self):
        self.assertEqual(changes_nothing([opening(), adding()], saving())[0], 4 + 22)


if __name__ == "__main__":
    unittest.main()
