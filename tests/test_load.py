"""Promise 7: load, and the check."""

import unittest

from tests.calls import TOP, last_said, load_answer, loading, loading_numbers, opening, said, telling_program

END = (8, 0)
SMALL = [(0, 1), END]


class Loading(unittest.TestCase):
    def test_which_slots_there_are(self):
        for slot, answer in ((-1, -1), (0, 2), (15, 2), (16, -1), (-2147483648, -1), (2147483647, -1)):
            self.assertEqual(last_said(opening(), loading(slot, SMALL)), [answer], slot)

    def test_not_open(self):
        self.assertEqual(said(loading(0, SMALL), telling_program(0)), [[-1], [-2]])

    def test_two_numbers_for_each_instruction(self):
        self.assertEqual(last_said(opening(), loading_numbers(0, [0, 1, 8])), [-1])
        self.assertEqual(last_said(opening(), loading_numbers(0, [8])), [-1])
        self.assertEqual(last_said(opening(), loading_numbers(0, [9] * 599)), [-1])

    def test_it_is_the_slots(self):
        program = [(1, 0), (0, TOP), (4, 2), (6, 3), (0, 0), (2, 8), (5, 0), END]
        told = last_said(opening(), loading(2, SMALL), loading(2, program), telling_program(2))
        self.assertEqual(told, [8] + [number for pair in program for number in pair])

    def test_a_refusal_changes_nothing(self):
        for wrong in (loading(2, []), loading(2, [(0, 1)]), loading_numbers(2, [0, 1, 8]), loading(16, SMALL),
                      loading(2, [(0, 1)] * 300)):
            told = said(opening(), loading(2, SMALL), wrong, telling_program(2))
            self.assertLess(told[2][0], 0)
            self.assertEqual(told[3], [2, 0, 1, 8, 0])


class Check(unittest.TestCase):
    def right(self, program):
        self.assertEqual(load_answer(program), [len(program)], program)

    def wrong(self, program, place):
        self.assertEqual(load_answer(program), [-10 - place], program)

    def test_how_many_instructions(self):
        self.wrong([], 0)
        self.wrong([END], 0)
        self.right(SMALL)
        self.right([(0, 1)] + [(5, 0)] * 254 + [END])
        self.wrong([(0, 1)] + [(5, 0)] * 255 + [END], 256)
        self.wrong([(0, 1)] + [(5, 0)] * 298 + [END], 256)

    def test_of_more_than_256_it_is_256_whatever_else_is_wrong(self):
        self.wrong([(9, 9)] * 257, 256)
        self.wrong([(9, 9)] * 256, 0)

    def test_what_an_instruction_is(self):
        for number in (0, 1, TOP):
            self.right([(0, number), END])
        self.right([(1, 0), END])
        self.wrong([(1, 1), END], 0)
        for number in range(1, 9):
            self.right([(0, 0), (2, number), END])
        for number in (0, 9, TOP):
            self.wrong([(0, 0), (2, number), END], 1)
        for code, most in ((3, 6), (4, 5)):
            for number in range(most + 1):
                self.right([(0, 0), (0, 0), (code, number), END])
            for number in (most + 1, TOP):
                self.wrong([(0, 0), (0, 0), (code, number), END], 2)
        self.wrong([(0, 0), (5, 1), END], 1)
        self.wrong([(0, 0), (8, 1)], 1)
        for code in (9, 10, 255, TOP):
            self.wrong([(0, 0), (code, 0), END], 1)

    def test_one_that_cannot_be_come_to(self):
        self.wrong([(0, 1), END, (0, 1), END], 2)
        self.wrong([(0, 1), END, END], 2)
        self.right([(0, 1), (0, 1), (6, 1), END, END])
        # The end at 3 is followed by one that nothing leads to.
        self.wrong([(0, 1), (0, 1), (6, 2), END, (0, 1), END], 4)

    def test_fewer_values_than_it_takes(self):
        for instruction in ((2, 1), (5, 0), (6, 1), (7, 1), (8, 0)):
            self.wrong([instruction, (0, 1), END], 0)
        for code in (3, 4):
            self.wrong([(code, 0), END], 0)
            self.wrong([(0, 1), (code, 0), END], 1)
            self.right([(0, 1), (0, 1), (code, 0), END])
        # One that leaves nothing out has taken the value.
        self.wrong([(0, 1), (6, 1), END, (0, 1), END], 2)

    def test_32_and_33_values(self):
        self.right([(0, 1)] * 32 + [END])
        self.wrong([(0, 1)] * 33 + [END], 32)
        self.right([(1, 0)] * 32 + [END])
        self.wrong([(1, 0)] * 33 + [END], 32)
        self.wrong([(1, 0)] * 40 + [END], 32)
        self.right([(0, 1)] * 32 + [(2, 1), (5, 0), (3, 0), (0, 1), END])
        self.right([(0, 1)] * 32 + [(7, 1), (0, 1), END])

    def test_the_last_is_an_8(self):
        self.wrong([(0, 1)], 0)
        self.wrong([(0, 1), (5, 0)], 1)
        self.wrong([(0, 1), (0, 1), (6, 0)], 2)
        self.wrong([(0, 1), (0, 1), (6, 1), END, (5, 0)], 4)

    def test_leaving_out_beyond_the_last(self):
        for code in (6, 7):
            self.right([(0, 1), (code, 1), (0, 1), END])
            self.wrong([(0, 1), (code, 2), (0, 1), END], 1)
            self.wrong([(0, 1), (code, 3), (0, 1), END], 1)
            self.wrong([(0, 1), (code, TOP), (0, 1), END], 1)

    def test_another_number_of_values(self):
        for code in (6, 7):
            # Nothing left out: the next one is come to with the value and without.
            self.wrong([(0, 1), (0, 1), (code, 0), END], 2)
            # The end at 4 is known with two values; 3 comes to it with one.
            self.wrong([(0, 1), (0, 1), (code, 1), (5, 0), END], 3)
            self.right([(0, 1), (0, 1), (code, 1), (0, 1), END])
            self.wrong([(0, 1), (0, 1), (code, 2), (0, 1), (0, 1), END], 4)

    def test_two_that_leave_out_to_one_place(self):
        self.right([(0, 1), (6, 4), (0, 1), (6, 2), (0, 1), (5, 0), END])
        # 4 would leave out to the end with one value more than 1 does.
        self.wrong([(0, 1), (6, 5), (0, 1), (0, 1), (6, 2), (0, 1), (3, 0), END], 4)

    def test_the_first_wrong_one_is_told(self):
        self.wrong([(0, 1), (9, 0), (9, 0)], 1)
        self.wrong([(0, 1), (6, 9), (9, 0)], 1)
        self.wrong([(0, 1), (5, 0), (3, 0), (9, 0)], 2)


if __name__ == "__main__":
    unittest.main()
