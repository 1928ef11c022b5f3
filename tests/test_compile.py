"""Promise 5: compile, its refusals and what it makes of a filter."""

import unittest

from tests.calls import TOP, compile_answer, compiled, compiling, last_said, opening, said, telling_program

END = (8, 0)


class Slots(unittest.TestCase):
    def test_which_slots_there_are(self):
        for slot, answer in ((-1, -1), (0, 4), (15, 4), (16, -1), (-2147483648, -1), (2147483647, -1)):
            self.assertEqual(last_said(opening(), compiling(slot, "len=1")), [answer], slot)

    def test_not_open(self):
        self.assertEqual(said(compiling(0, "len=1"), telling_program(0)), [[-1], [-2]])

    def test_one_slot_is_filled_and_no_other(self):
        told = said(opening(), compiling(7, "len=1"), *[telling_program(slot) for slot in range(16)])
        for slot in range(16):
            self.assertEqual(told[2 + slot], [4, 1, 0, 0, 1, 4, 0, 8, 0] if slot == 7 else [-2])

    def test_a_slot_is_filled_anew(self):
        self.assertEqual(last_said(opening(), compiling(7, "len=1"), compiling(7, "1=1"), telling_program(7)),
                         [2, 0, 1, 8, 0])

    def test_a_refusal_changes_nothing(self):
        for wrong in (compiling(7, "len="), compiling(7, "len=1" + " " * 1020), compiling(16, "1=1"),
                      compiling(7, "len" + "+len" * 140 + "=1")):
            told = said(opening(), compiling(7, "len=1"), wrong, telling_program(7))
            self.assertLess(told[2][0], 0)
            self.assertEqual(told[3], [4, 1, 0, 0, 1, 4, 0, 8, 0])

    def test_what_is_handed_over_comes_ahead_of_the_text(self):
        self.assertEqual(last_said(opening(), compiling(16, "#")), [-1])
        self.assertEqual(last_said(compiling(0, "#")), [-1])


class Lengths(unittest.TestCase):
    def test_texts_of_1024_and_1025_bytes(self):
        self.assertEqual(compile_answer("len=1" + " " * 1019), [4])
        self.assertEqual(compile_answer("len=1" + " " * 1020), [-1])
        self.assertEqual(compile_answer(" " * 1024), [-10 - 1024])
        self.assertEqual(compile_answer("#" * 1025), [-1])

    def test_programs_of_256_and_257_instructions(self):
        # len, 1, their comparison and the end are four; each not is one more.
        self.assertEqual(compile_answer("not " * 252 + "len=1"), [256])
        self.assertEqual(compile_answer("not " * 253 + "len=1"), [-7])
        self.assertEqual(compile_answer("len" + "+len" * 126 + "=1"), [256])
        self.assertEqual(compile_answer("not len" + "+len" * 126 + "=1"), [-7])

    def test_a_program_is_long_only_if_it_is_after_reckoning(self):
        self.assertEqual(compile_answer("1" + "+1" * 500 + "=501"), [2])
        self.assertEqual(compile_answer("1=2 and len" + "+len" * 200 + "=1"), [2])

    def test_32_and_33_values(self):
        self.assertEqual(compile_answer("len+{" * 31 + "len" + "}" * 31 + "=1"), [32 + 31 + 3])
        self.assertEqual(compile_answer("len+{" * 32 + "len" + "}" * 32 + "=1"), [-7])
        self.assertEqual(compile_answer("len=len+{" + "len+{" * 29 + "len" + "}" * 30), [32 + 30 + 2])
        self.assertEqual(compile_answer("len=len+{" + "len+{" * 30 + "len" + "}" * 31), [-7])

    def test_where_the_text_stops_comes_ahead_of_the_check(self):
        text = "len" + "+len" * 200 + "=1"
        self.assertEqual(compile_answer(text), [-7])
        self.assertEqual(compile_answer(text + ")"), [-10 - len(text)])


class Programs(unittest.TestCase):
    def check(self, text, *instructions):
        self.assertEqual(compiled(text), list(instructions) + [END], text)

    def test_parts(self):
        self.check("len=5", (1, 0), (0, 5), (4, 0))
        self.check("[3]=5", (0, 3), (2, 1), (0, 5), (4, 0))
        self.check("[3:4]=5", (0, 3), (2, 4), (0, 5), (4, 0))
        self.check("kind=5", (0, 12), (2, 2), (0, 5), (4, 0))
        self.check("[12:2]=5", (0, 12), (2, 2), (0, 5), (4, 0))
        self.check("{len}=5", (1, 0), (0, 5), (4, 0))
        self.check("5=len", (0, 5), (1, 0), (4, 0))
        self.check("[[1]:2]=5", (0, 1), (2, 1), (2, 2), (0, 5), (4, 0))
        self.check("[len-1]=5", (1, 0), (0, 1), (3, 1), (2, 1), (0, 5), (4, 0))

    def test_operations_and_comparisons(self):
        for number, sign in enumerate(("+", "-", "|", "*", "&", "<<", ">>")):
            self.check("len" + sign + "2=5", (1, 0), (0, 2), (3, number), (0, 5), (4, 0))
        for number, sign in enumerate(("=", "!=", "<", "<=", ">", ">=")):
            self.check("len" + sign + "2", (1, 0), (0, 2), (4, number))

    def test_what_binds_closer(self):
        self.check("len+len*2=5", (1, 0), (1, 0), (0, 2), (3, 3), (3, 0), (0, 5), (4, 0))
        self.check("{len+len}*2=5", (1, 0), (1, 0), (3, 0), (0, 2), (3, 3), (0, 5), (4, 0))
        self.check("len-2-3=5", (1, 0), (0, 2), (3, 1), (0, 3), (3, 1), (0, 5), (4, 0))
        self.check("len<<2>>3&4=5", (1, 0), (0, 2), (3, 5), (0, 3), (3, 6), (0, 4), (3, 4), (0, 5), (4, 0))
        self.check("len|1+2=5", (1, 0), (0, 1), (3, 2), (0, 2), (3, 0), (0, 5), (4, 0))

    def test_and_or_not(self):
        one = [(1, 0), (0, 1), (4, 0)]
        two = [(1, 0), (0, 2), (4, 0)]
        six = [(1, 0), (0, 6), (4, 0)]
        self.check("len=1 and len=2", *one, (6, 3), *two)
        self.check("len=1 or len=2", *one, (7, 3), *two)
        self.check("not len=1", *one, (5, 0))
        self.check("not not len=1", *one, (5, 0), (5, 0))
        self.check("not len=1 and len=2", *one, (5, 0), (6, 3), *two)
        self.check("not(len=1 and len=2)", *one, (6, 3), *two, (5, 0))
        self.check("len=1 and len=2 and len=6", *one, (6, 3), *two, (6, 3), *six)
        self.check("len=1 and (len=2 and len=6)", *one, (6, 7), *two, (6, 3), *six)
        self.check("len=1 or len=2 or len=6", *one, (7, 3), *two, (7, 3), *six)
        self.check("len=1 or len=2 and len=6", *one, (7, 7), *two, (6, 3), *six)
        self.check("len=1 and len=2 or len=6", *one, (6, 3), *two, (7, 3), *six)
        self.check("len=1 and not len=2", *one, (6, 4), *two, (5, 0))

    def test_numbers_are_reckoned_beforehand(self):
        for text, value in (("1+2", 3), ("0-1", TOP), (str(TOP) + "+1", 0), ("5|3", 7), ("6&3", 2),
                            ("7*3", 21), (str(TOP) + "*" + str(TOP), 1), ("1<<63", 2 ** 63), ("1<<64", 0),
                            ("3<<63", 2 ** 63), ("1<<" + str(TOP), 0), (str(TOP) + ">>63", 1),
                            (str(TOP) + ">>64", 0), (str(TOP) + ">>" + str(TOP), 0), ("7-2-3", 2),
                            ("2+3*4", 14), ("{2+3}*4", 20), ("1|2+4", 7), ("1<<2*3", 12)):
            self.check("len=" + text, (1, 0), (0, value), (4, 0))

    def test_only_what_stands_together_is_reckoned(self):
        self.check("len+1+2=5", (1, 0), (0, 1), (3, 0), (0, 2), (3, 0), (0, 5), (4, 0))
        self.check("1+2+len=5", (0, 3), (1, 0), (3, 0), (0, 5), (4, 0))
        self.check("len*0=0", (1, 0), (0, 0), (3, 3), (0, 0), (4, 0))
        self.check("[1+2]=5", (0, 3), (2, 1), (0, 5), (4, 0))
        self.check("len=len", (1, 0), (1, 0), (4, 0))

    def test_comparisons_are_reckoned_beforehand(self):
        for text, outcome in (("1=1", 1), ("1=2", 0), ("1!=1", 0), ("1!=2", 1), ("1<2", 1), ("2<2", 0),
                              ("2<=2", 1), ("3<=2", 0), ("3>2", 1), ("2>2", 0), ("2>=2", 1), ("1>=2", 0),
                              ("not 1=1", 0), ("not not 1=1", 1), ("not 1=2", 1), ("(1=1)", 1),
                              ("not(1=2)", 1)):
            self.check(text, (0, outcome))

    def test_yes_and_no_that_stand_first(self):
        one = [(1, 0), (0, 1), (4, 0)]
        self.check("1=1 and len=1", *one)
        self.check("1=2 and len=1", (0, 0))
        self.check("1=1 or len=1", (0, 1))
        self.check("1=2 or len=1", *one)
        self.check("not 1=2 and len=1", *one)
        self.check("1=1 and 1=2", (0, 0))
        self.check("1=2 or 1=2", (0, 0))
        self.check("1=1 and 1=1 and len=1", *one)
        self.check("not(1=2 and len=1)", (0, 1))
        self.check("(1=1 or len=1) and len=1", *one)

    def test_yes_and_no_that_stand_second(self):
        one = [(1, 0), (0, 1), (4, 0)]
        self.check("len=1 and 1=1", *one, (6, 1), (0, 1))
        self.check("len=1 and 1=2", *one, (6, 1), (0, 0))
        self.check("len=1 or 1=1", *one, (7, 1), (0, 1))
        self.check("len=1 or 1=2", *one, (7, 1), (0, 0))
        self.check("len=1 and (1=2 or 1=1)", *one, (6, 1), (0, 1))
        self.check("len=1 or 1=2 and len=1", *one, (7, 1), (0, 0))


if __name__ == "__main__":
    unittest.main()
