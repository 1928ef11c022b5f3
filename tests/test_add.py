"""Promise 2: add."""

import unittest

from tests.calls import (NO, YES, adding, compiling, counting, finding, gating, getting, last_said, loading,
                         loading_numbers, opening, said)


class Adding(unittest.TestCase):
    def test_numbers_from_1_on(self):
        self.assertEqual(said(opening(), adding(), adding(), adding())[1:], [[1], [2], [3]])

    def test_times(self):
        for time, answer in ((0, 1), (2 ** 63 - 1, 1), (2 ** 63, -1), (2 ** 63 + 1, -1), (2 ** 64 - 1, -1)):
            self.assertEqual(last_said(opening(), adding(time)), [answer], time)

    def test_ways(self):
        for way, answer in ((0, 1), (1, 1), (2, -1), (-1, -1), (-2147483648, -1), (2147483647, -1)):
            self.assertEqual(last_said(opening(), adding(0, way)), [answer], way)

    def test_lengths(self):
        for length, answer in ((0, -1), (1, 1), (1518, 1), (1519, -1), (1600, -1)):
            self.assertEqual(last_said(opening(), adding(0, 0, [3] * length)), [answer], length)

    def test_not_open(self):
        self.assertEqual(said(adding(), counting(), getting(1)), [[-1], [0, 0, 0, 0, 0, 0, 1], [-2]])

    def test_a_refusal_changes_nothing(self):
        for wrong in (adding(2 ** 63), adding(0, 2), adding(0, 0, []), adding(0, 0, [0] * 1519)):
            told = said(opening(), adding(), wrong, counting(), adding())
            self.assertEqual(told[3:], [[0, 1, 25, 1, 0, 0, 2], [2]])

    def test_the_oldest_go_when_room_is_short(self):
        # Two weigh 2048, just the room; a byte more is too much.
        told = said(opening(2048), adding(1, 0, [1] * 1000), adding(2, 0, [2] * 1000),
                    adding(3, 0, [3]), getting(1), getting(2), getting(3), counting())
        self.assertEqual(told[3:5], [[3], [-2]])
        self.assertEqual(told[5], [1000, 2, 0, 1000] + [2] * 1000)
        self.assertEqual(told[6], [1, 3, 0, 1, 3])
        self.assertEqual(told[7], [0, 2, 1049, 3, 0, 1, 4])

    def test_no_more_go_than_must(self):
        told = said(opening(2048), adding(0, 0, [1] * 1000), adding(0, 0, [2] * 1000), counting())
        self.assertEqual(told[3], [0, 2, 2048, 2, 0, 0, 3])

    def test_several_go_for_one(self):
        told = said(opening(2048), *[adding(0, 0, [1] * 76)] * 20, adding(0, 0, [2] * 1518), counting(),
                    getting(15), getting(16))
        self.assertEqual(told[-3], [0, 6, 5 * 100 + 1542, 21, 0, 15, 22])
        self.assertEqual(told[-2], [-2])
        self.assertEqual(told[-1], [76, 0, 0, 76] + [1] * 76)

    def test_room_is_weighed_by_what_is_kept(self):
        told = said(opening(2048, 1), *[adding(0, 0, [1] * 1518)] * 10, counting())
        self.assertEqual(told[-1], [0, 10, 250, 10, 0, 0, 11])


class AddingWithAGate(unittest.TestCase):
    def said_behind_a_gate(self, *calls):
        """What is answered to the calls with snap 2 and a gate that looks at the third byte."""
        return said(opening(2048, 2), compiling(5, "[2] = 7"), gating(5), *calls)[3:]

    def test_the_gate_looks_at_the_whole_frame(self):
        told = self.said_behind_a_gate(adding(1, 0, [1, 2, 7]), getting(1))
        self.assertEqual(told, [[1], [2, 1, 0, 3, 1, 2]])

    def test_what_the_gate_says_no_to_is_seen_and_not_kept(self):
        told = self.said_behind_a_gate(adding(1, 0, [1, 2, 8]), adding(1, 0, [1, 2]), counting(),
                                       adding(1, 0, [1, 2, 7]), counting())
        self.assertEqual(told, [[0], [0], [0, 0, 0, 2, 2, 0, 1], [1], [0, 1, 26, 3, 2, 0, 2]])

    def test_what_the_gate_says_no_to_makes_no_other_go(self):
        told = said(opening(2048), adding(0, 0, [1] * 1518), loading(0, NO), gating(0),
                    adding(0, 0, [2] * 1518), counting(), finding(0))
        self.assertEqual(told[4:], [[0], [0, 1, 1542, 2, 1, 0, 2], [0]])

    def test_a_refusal_comes_ahead_of_the_gate(self):
        told = self.said_behind_a_gate(adding(1, 2, [1, 2, 8]), adding(2 ** 63, 0, [1, 2, 8]), adding(1, 0, []),
                                       counting())
        self.assertEqual(told, [[-1], [-1], [-1], [0, 0, 0, 0, 0, 0, 1]])

    def test_the_gate_has_the_slots_newest_program(self):
        for newest in (loading(5, YES), compiling(5, "len = 1")):
            self.assertEqual(self.said_behind_a_gate(newest, adding(1, 0, [1]))[1], [1])

    def test_a_program_that_is_refused_leaves_the_gate_as_it_was(self):
        for wrong in (loading(5, []), compiling(5, "len ="), compiling(5, b" " * 1025), loading_numbers(5, [0])):
            told = self.said_behind_a_gate(wrong, adding(1, 0, [1]), adding(1, 0, [1, 2, 7]))
            self.assertEqual(told[1:], [[0], [1]])

    def test_a_new_one_has_no_gate(self):
        self.assertEqual(self.said_behind_a_gate(opening(), adding(1, 0, [1]), loading(5, NO), adding(1, 0, [1])),
                         [[0], [1], [2], [2]])


if __name__ == "__main__":
    unittest.main()
