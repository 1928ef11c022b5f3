"""Promise 5: where a text can't go on."""

import unittest

from tests.calls import TOP, compile_answer, compiled


class Places(unittest.TestCase):
    def stops(self, text, place):
        self.assertEqual(compile_answer(text), [-10 - place], text)

    def goes(self, text):
        self.assertGreater(compile_answer(text)[0], 0, text)

    def number(self, text, value):
        self.assertEqual(compiled("len=" + text), [(1, 0), (0, value), (4, 0), (8, 0)], text)


class Words(Places):
    def test_digits(self):
        for text, value in (("0", 0), ("7", 7), ("007", 7), ("0" * 900 + "1", 1), (str(TOP), TOP)):
            self.number(text, value)
        for text in (str(TOP + 1), str(TOP) + "0", "9" * 1000, "1a", "12len", "5and", "1x1"):
            self.stops("len=" + text, 4)

    def test_hexadecimal(self):
        for text, value in (("0x0", 0), ("0xff", 255), ("0xFF", 255), ("0xaBcDeF09", 0xABCDEF09),
                            ("0x" + "f" * 16, TOP), ("0x" + "0" * 40 + "1", 1)):
            self.number(text, value)
        for text in ("0x", "0X1", "0xg", "0x1g", "0x1" + "0" * 16, "0x1.2.3.4", "00x1", "1x2"):
            self.stops("len=" + text, 4)

    def test_with_points(self):
        for text, value in (("0.0.0.0", 0), ("1.2.3.4", 0x01020304), ("255.255.255.255", 2 ** 32 - 1),
                            ("010.0.0.001", 0x0A000001), ("10.0.0.1", 0x0A000001)):
            self.number(text, value)
        for text in ("1.2.3", "1.2.3.4.5", "1.2.3.256", "256.2.3.4", "1.2.3.", "1..2.3", "1.", "1.2.3.x",
                     ".1.2.3", "...", ".", ".5", "1.2.3.0x4", "1.2.3.4a"):
            self.stops("len=" + text, 4)

    def test_other_words(self):
        for text in ("lens", "Len", "LEN", "le", "AND", "true", "x", "kind2", "and1", "len.", "notlen"):
            self.stops(text + "=1", 0)

    def test_other_signs(self):
        for sign in ("#", "!", "_", "/", "%", "~", "^", ",", ";", "'", "\"", "\\", "?", "@", "$", "`",
                     "\r", "\v", "\f", "\0"):
            self.stops("len=1 " + sign, 6)
            self.stops("len=1 " + sign + " or len=2", 6)

    def test_bytes_that_are_no_signs(self):
        for code in list(range(9)) + list(range(11, 32)) + list(range(127, 256)):
            self.stops(b"len=1" + bytes([code]), 5)

    def test_signs_are_as_long_as_may_be(self):
        self.goes("1<<2>=3")
        self.goes("len!=3")
        self.stops("len<==3", 5)
        self.stops("len<<=3", 5)
        self.stops("len>>>3", 5)
        self.stops("len= =3", 5)
        self.stops("len< =3", 5)
        self.stops("len! =3", 3)
        self.stops("len!!=3", 3)

    def test_blanks(self):
        self.goes("len=1")
        self.goes(" \t\n len \n = \t 1 \n")
        self.goes("not(len=1)and(len=2)or(len=3)")
        self.stops("len=1or len=2", 4)

    def test_what_is_none_of_these_comes_first(self):
        self.stops("= = = #", 6)
        self.stops(") ) 1x", 4)
        self.stops("(((len #", 7)
        self.stops("(" * 41 + " foo bar", 42)
        self.stops("[1:9] = 3 foo", 10)
        self.stops("foo # bar", 0)


class Grammar(Places):
    def test_the_end(self):
        for text in ("", " ", "\n\t ", "len", "len =", "len = 1 and", "len=1 or ", "not", "(", "(len=1",
                     "len+", "len*", "len<<", "[", "[1", "[1:", "[1:2", "[1]", "{", "{1", "{1}", "len=[1",
                     "len = 1 and not "):
            self.stops(text, len(text))

    def test_what_no_filter_goes_on_with(self):
        for text, place in (("=", 0), (")", 0), ("and", 0), ("or", 0), ("+", 0), ("]", 0), (":", 0), ("-1=1", 0),
                            ("len len", 4), ("len 1", 4), ("len and", 4), ("len)", 3), ("len=1)", 5),
                            ("len=1=1", 5), ("1<2<3", 3), ("len=1 2", 6), ("len=1 not", 6), ("len=1 (", 6),
                            ("len=not", 4), ("len=(1)", 4), ("(1+2)=3", 4), ("(len)=3", 4), ("not)", 3),
                            ("not and", 4), ("len=1 and or", 10), ("len=1 and)", 9), ("()", 1), ("[]", 1),
                            ("{}", 1), ("{1]", 2), ("{1)", 2), ("{1:2}", 2), ("[1}", 2), ("[1)", 2),
                            ("[1=1]", 2), ("{1=1}", 2), ("[not", 1), ("[(", 1), ("(len=1]", 6), ("(len=1}", 6),
                            ("len:2", 3), ("len=1:", 5), ("[1:2:3]", 4), ("[1:2+1]", 4), ("[:2]", 1),
                            ("len+*2", 4), ("len+-2", 4), ("1+(2)", 2), ("(len=1)=1", 7), ("(len=1)+1", 7),
                            ("(len=1)(", 7), ("len[1]", 3), ("1{1}", 1), ("kind kind", 5), ("[1]]", 3)):
            self.stops(text, place)
            self.stops(text + " = 1 and ( [", place)

    def test_how_many_bytes(self):
        for number in ("1", "2", "3", "4", "5", "6", "7", "8", "0x8", "008", "0.0.0.1", "0x00000001"):
            self.goes("[0:" + number + "]=1")
        for number in ("0", "9", "10", "0x0", "0x9", "1.0.0.0", "0.0.0.0", str(TOP), "len", "kind", "{", "[",
                       "(", "-", "]", "not", "+"):
            self.stops("[0:" + number + "]=1", 3)

    def test_the_number_of_bytes_is_told_as_it_is(self):
        for size in range(1, 9):
            self.assertEqual(compiled("[0:0x" + str(size) + "]=1")[1], (2, size))

    def test_forty_brackets(self):
        self.goes("(" * 40 + "len=1" + ")" * 40)
        self.goes("{" * 40 + "len" + "}" * 40 + "=1")
        self.goes("[" * 40 + "len" + "]" * 40 + "=1")
        self.goes("(" * 20 + "{[" * 10 + "len" + "]}" * 10 + "=1" + ")" * 20)
        self.goes("not(" * 40 + "len=1" + ")" * 40)

    def test_forty_one_brackets(self):
        self.stops("(" * 41 + "len=1" + ")" * 41, 40)
        self.stops("{" * 41 + "len" + "}" * 41 + "=1", 40)
        self.stops("[" * 41 + "len" + "]" * 41 + "=1", 40)
        self.stops("(" * 20 + "{[" * 10 + "[len]" + "]}" * 10 + "=1" + ")" * 20, 40)
        self.stops("(" * 41, 40)
        self.stops("(" * 40, 40)

    def test_brackets_that_are_closed_do_not_count(self):
        self.goes("(len=1) or " * 60 + "len=1")
        self.goes("(" * 40 + "len=1" + ")" * 40 + " and " + "(" * 40 + "len=1" + ")" * 40)
        self.goes("{" * 40 + "1" + "}" * 40 + "=" + "{" * 40 + "len" + "}" * 40)
        self.stops("(" * 39 + "{1}={" + "{1}}" + ")" * 39, 44)

    def test_many_nots_and_long_rows(self):
        self.assertEqual(compiled("not " * 250 + "1=1"), [(0, 1), (8, 0)])
        self.assertEqual(compiled("1=1 and " * 120 + "1=2"), [(0, 0), (8, 0)])
        self.stops("not " * 256, 1024)


if __name__ == "__main__":
    unittest.main()
