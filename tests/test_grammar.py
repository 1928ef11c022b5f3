"""Promise 5: rows of tokens, against a reader made from the document's grammar alone."""

import itertools
import random
import unittest

from tests.calls import compile_answer
from tests.earley import TOKENS, read


class Rows(unittest.TestCase):
    def check(self, tokens):
        text = " ".join(tokens)
        answer = compile_answer(text)[0]
        count, whole = read(tokens)
        if whole:
            self.assertGreater(answer, 0, text)
        elif count == len(tokens):
            self.assertEqual(answer, -10 - len(text), text)
        else:
            place = len(" ".join(tokens[:count] + [""]))
            self.assertEqual(answer, -10 - place, text)

    def test_all_short_rows(self):
        short = ["1", "9", "[", "]", "{", "}", "(", ")", ":", "+", "*", "=", "not", "and"]
        for length in range(1, 4):
            for tokens in itertools.product(short, repeat=length):
                self.check(list(tokens))

    def test_rows_that_go_on_at_random(self):
        chance = random.Random(20)
        for turn in range(120):
            tokens = []
            while len(tokens) < 14:
                choice = chance.choice(TOKENS)
                # Mostly what may stand there, so that rows grow long before they fail.
                if read(tokens + [choice])[0] > len(tokens) or chance.random() < 0.01:
                    tokens.append(choice)
            self.check(tokens)
            self.check(tokens[:chance.randrange(1, 14)])


if __name__ == "__main__":
    unittest.main()
