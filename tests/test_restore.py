"""Promise 15: restore."""

import random
import unittest

from tests.calls import (NO, YES, adding, changes_nothing, counting, dumping, file_bytes, frame_bytes, gating, getting,
                         last_said, loading, opening, restoring, said, saving, telling_program)


def restored(file, room=16777216, snap=1518):
    return last_said(opening(room, snap), restoring(file))


class Restoring(unittest.TestCase):
    def test_frames_of_a_file(self):
        file = file_bytes(frame_bytes(4, 100, 1, 9, [1, 2, 3]), frame_bytes(7, 50, 0, 2, [5, 6]))
        told = said(opening(), restoring(file), getting(4), getting(7), getting(5), counting(), saving(), adding())
        self.assertEqual(told[1:], [[2], [3, 100, 1, 9, 1, 2, 3], [2, 50, 0, 2, 5, 6], [-2],
                                    [0, 2, 27 + 26, 0, 0, 0, 8], [len(file)] + file, [8]])

    def test_instead_of_what_was(self):
        told = said(opening(), adding(1, 0, [1]), adding(1, 0, [2]), restoring(file_bytes(frame_bytes(2, kept=[9]))),
                    getting(1), getting(2), counting())
        self.assertEqual(told[3:], [[1], [-2], [1, 0, 0, 1, 9], [0, 1, 25, 2, 0, 0, 3]])

    def test_the_file_of_no_frame(self):
        told = said(opening(), adding(), adding(), restoring(file_bytes()), counting(), getting(2), adding())
        self.assertEqual(told[3:], [[0], [0, 0, 0, 2, 0, 0, 3], [-2], [3]])

    def test_slots_and_gate_stay(self):
        told = said(opening(), loading(2, NO), loading(3, YES), gating(2), restoring(file_bytes(frame_bytes())),
                    telling_program(2), telling_program(3), adding(), counting())
        self.assertEqual(told[4:], [[1], [2, 0, 0, 8, 0], [2, 0, 1, 8, 0], [0], [0, 1, 25, 1, 1, 0, 2]])

    def test_the_counts_stay(self):
        told = said(opening(), *[adding(0, 0, [1] * 1500)] * 3, loading(2, NO), gating(2), adding(),
                    restoring(file_bytes(frame_bytes(2))), counting())
        self.assertEqual(told[-1], [0, 1, 25, 4, 1, 2, 4])

    def test_not_open(self):
        self.assertEqual(said(restoring(file_bytes(frame_bytes())), restoring([]), counting(), saving()),
                         [[-1], [-1], [0, 0, 0, 0, 0, 0, 1], [4, 67, 65, 80, 84]])


class TheNextNumber(unittest.TestCase):
    def test_one_more_than_the_greatest(self):
        for numbers, coming in (((1,), 2), ((5,), 6), ((2, 9), 10), ((2 ** 63 - 1,), 2 ** 63)):
            file = file_bytes(*[frame_bytes(number) for number in numbers])
            told = said(opening(), restoring(file), counting(), adding())
            self.assertEqual(told[2][-1], coming)
            self.assertEqual(told[3], [coming])

    def test_not_less_than_it_was(self):
        # Three were added, so that 4 comes next.
        for greatest, coming in ((1, 4), (2, 4), (3, 4), (4, 5), (5, 6)):
            told = said(opening(), adding(), adding(), adding(), restoring(file_bytes(frame_bytes(greatest))), adding())
            self.assertEqual(told[-1], [coming], greatest)

    def test_two_restored_one_after_another(self):
        told = said(opening(), restoring(file_bytes(frame_bytes(8))), restoring(file_bytes(frame_bytes(3))), adding(),
                    getting(3), getting(8))
        self.assertEqual(told[-3:], [[9], [1, 0, 0, 1, 7], [-2]])


class SnapAndRoom(unittest.TestCase):
    def test_a_smaller_snap(self):
        file = file_bytes(frame_bytes(1, 5, 1, 9, [1, 2, 3, 4]), frame_bytes(2, 6, 0, 2, [5, 6]))
        told = said(opening(2048, 3), restoring(file), getting(1), getting(2), counting())
        self.assertEqual(told[1:], [[2], [3, 5, 1, 9, 1, 2, 3], [2, 6, 0, 2, 5, 6], [0, 2, 27 + 26, 0, 0, 0, 3]])

    def test_snap_as_long_as_what_is_kept(self):
        for snap, kept in ((3, [1, 2, 3]), (4, [1, 2, 3, 4]), (5, [1, 2, 3, 4])):
            told = last_said(opening(2048, snap), restoring(file_bytes(frame_bytes(1, 5, 1, 9, [1, 2, 3, 4]))),
                             getting(1))
            self.assertEqual(told, [len(kept), 5, 1, 9] + kept)

    def test_the_oldest_go_if_they_are_too_heavy(self):
        file = file_bytes(*[frame_bytes(number, number, 0, 1000, [number] * 1000) for number in (1, 2, 3, 4)])
        told = said(opening(2048), restoring(file), counting(), getting(2), getting(3))
        self.assertEqual(told[1:4], [[2], [0, 2, 2048, 0, 0, 0, 5], [-2]])
        self.assertEqual(told[4], [1000, 3, 0, 1000] + [3] * 1000)

    def test_a_byte_too_heavy(self):
        frames = [frame_bytes(1, 0, 0, 1000, [1] * 1000), frame_bytes(2, 0, 0, 1001, [2] * 1001)]
        told = said(opening(2049), restoring(file_bytes(*frames)), opening(2048), restoring(file_bytes(*frames)),
                    counting())
        self.assertEqual(told[1:], [[2], [0], [1], [0, 1, 1025, 0, 0, 0, 3]])

    def test_they_are_weighed_with_the_first_snap_bytes(self):
        file = file_bytes(*[frame_bytes(number, 0, 0, 1000, [1] * 1000) for number in (1, 2, 3)])
        self.assertEqual(said(opening(2048, 100), restoring(file), counting())[1:], [[3], [0, 3, 372, 0, 0, 0, 4]])

    def test_those_that_go_are_not_counted_as_gone(self):
        file = file_bytes(*[frame_bytes(number, 0, 0, 1500, [1] * 1500) for number in (1, 2, 3)])
        told = said(opening(2048), adding(), restoring(file), counting(), adding(0, 0, [1] * 1000), counting())
        self.assertEqual(told[2:], [[1], [0, 1, 1524, 1, 0, 0, 4], [4], [0, 1, 1024, 2, 0, 1, 5]])

    def test_restored_ones_go_for_added_ones(self):
        file = file_bytes(frame_bytes(5, 0, 0, 1000, [1] * 1000), frame_bytes(6, 0, 0, 1000, [1] * 1000))
        told = said(opening(2048), restoring(file), adding(), counting(), getting(5), getting(6))
        self.assertEqual(told[1:5], [[2], [7], [0, 2, 1049, 1, 0, 1, 8], [-2]])
        self.assertEqual(told[5][0], 1000)


class WhatIsNoFile(unittest.TestCase):
    def answers_for(self, cases):
        for change, answer in cases:
            self.assertEqual(restored(file_bytes(frame_bytes(**change))), [answer], change)

    def test_numbers(self):
        self.answers_for([({"number": number}, answer) for number, answer in (
            (0, -3), (1, 1), (2, 1), (2 ** 63 - 1, 1), (2 ** 63, -3), (2 ** 63 + 1, -3), (2 ** 64 - 1, -3))])

    def test_numbers_rise(self):
        for numbers, answer in (((1, 2), 2), ((1, 1), -3), ((2, 1), -3), ((3, 5, 5), -3), ((3, 5, 4), -3),
                                ((3, 5, 2), -3), ((3, 5, 6), 3), ((1, 256, 257), 3), ((1, 0), -3),
                                ((2 ** 63 - 2, 2 ** 63 - 1), 2), ((2 ** 63 - 1, 2 ** 63), -3)):
            file = file_bytes(*[frame_bytes(number) for number in numbers])
            self.assertEqual(restored(file), [answer], numbers)

    def test_times(self):
        self.answers_for([({"time": time}, answer) for time, answer in (
            (0, 1), (2 ** 63 - 1, 1), (2 ** 63, -3), (2 ** 64 - 1, -3))])

    def test_times_need_not_rise(self):
        self.assertEqual(restored(file_bytes(frame_bytes(1, 9), frame_bytes(2, 3), frame_bytes(3, 3))), [3])

    def test_ways(self):
        self.answers_for([({"way": way}, answer) for way, answer in ((0, 1), (1, 1), (2, -3), (255, -3))])

    def test_lengths(self):
        for length, count, answer in ((0, 0, -3), (0, 1, -3), (1, 0, 1), (1, 1, 1), (1, 2, -3), (2, 1, 1), (9, 8, 1),
                                      (9, 9, 1), (9, 10, -3), (1518, 0, 1), (1518, 1518, 1), (1518, 1519, -3),
                                      (1519, 0, -3), (1519, 1518, -3), (1519, 1519, -3), (65535, 7, -3), (256, 255, 1),
                                      (255, 256, -3)):
            file = file_bytes(frame_bytes(1, 0, 0, length, [5] * count))
            self.assertEqual(restored(file), [answer], (length, count))

    def test_no_bytes_kept(self):
        told = said(opening(), restoring(file_bytes(frame_bytes(2, 3, 1, 60, []), frame_bytes(3, 4, 0, 1, [8]))),
                    getting(2), getting(3), counting(), dumping(2))
        self.assertEqual(told[1:], [[2], [0, 3, 1, 60], [1, 4, 0, 1, 8], [0, 2, 24 + 25, 0, 0, 0, 4], [0]])

    def test_the_beginning(self):
        for file in ([], [67], [67, 65, 80], [67, 65, 80, 85], [66, 65, 80, 84], [67, 66, 80, 84], [67, 65, 81, 84],
                     [0, 67, 65, 80, 84], frame_bytes()):
            self.assertEqual(restored(file), [-3], file)

    def test_cut_off_at_any_place(self):
        file = file_bytes(frame_bytes(1, 0, 0, 3, [1, 2, 3]), frame_bytes(2, 0, 0, 2, [4, 5]))
        whole = {4: 0, 4 + 24: 1, len(file): 2}
        for end in range(len(file) + 1):
            self.assertEqual(restored(file[:end]), [whole.get(end, -3)], end)

    def test_bytes_behind_it(self):
        file = file_bytes(frame_bytes(1, 0, 0, 3, [1, 2, 3]))
        for more in range(1, 30):
            self.assertEqual(restored(file + [0] * more), [-3], more)
            self.assertEqual(restored(file_bytes() + [0] * more), [-3], more)

    def test_a_count_that_is_not_what_is_there(self):
        for count in (0, 1, 2, 4, 5, 300):
            self.assertEqual(restored(file_bytes(frame_bytes(1, 0, 0, 1518, [1, 2, 3], count))), [-3], count)

    def test_a_wrong_one_behind_right_ones(self):
        right = [frame_bytes(number) for number in (1, 2, 3)]
        for wrong in (frame_bytes(3), frame_bytes(4, 2 ** 63), frame_bytes(4, 0, 2), frame_bytes(4, 0, 0, 0, [])):
            self.assertEqual(restored(file_bytes(*right, wrong)), [-3])

    def test_a_refusal_changes_nothing(self):
        for program in (NO, YES):
            before = [opening(), adding(4, 1, [1, 2]), adding(), loading(3, program), gating(3)]
            for file in ([], file_bytes(frame_bytes(9), frame_bytes(9)), file_bytes(frame_bytes(2 ** 63)),
                         file_bytes(frame_bytes(9)) + [0], file_bytes(frame_bytes(9))[:-1]):
                self.assertEqual(changes_nothing(before, restoring(file)), [-3])


class SavedAndRestored(unittest.TestCase):
    def test_what_is_saved_is_restored_as_it_was(self):
        chance = random.Random(11)
        for turn in range(60):
            frames = [adding(chance.choice((0, 5, 2 ** 63 - 1, chance.randrange(2 ** 63))), chance.randrange(2),
                             [chance.randrange(256) for place in range(chance.choice((1, 2, 40, 300)))])
                      for place in range(chance.randrange(20))]
            before = [opening(2048, chance.choice((1, 5, 1518))), *frames]
            asked = [saving(), *[getting(number) for number in range(len(frames) + 2)]]
            told = said(*before, *asked)[len(before):]
            again = said(before[0], restoring(told[0][1:]), *asked)
            self.assertEqual(again[2:], told)
            self.assertEqual(again[1], [sum(answer != [-2] for answer in told[1:])])

    def test_the_longest_file(self):
        # 714 frames of which nothing is kept have 4 + 714 * 21 bytes.
        file = file_bytes(*[frame_bytes(number, kept=[]) for number in range(1, 715)])
        told = said(opening(16777216), restoring(file), saving(), counting())
        self.assertEqual(told[1:], [[714], [14998] + file, [0, 714, 714 * 24, 0, 0, 0, 715]])


if __name__ == "__main__":
    unittest.main()
