"""What a compiled filter says is what the filter means: random filters, read as the words say."""

import random
import unittest

from framekeep.machine import says_yes
from tests.calls import compiled

LIMIT = 2 ** 64
OPERATIONS = {
    "+": lambda x, y: (x + y) % LIMIT,
    "-": lambda x, y: (x - y) % LIMIT,
    "|": lambda x, y: x | y,
    "*": lambda x, y: x * y % LIMIT,
    "&": lambda x, y: x & y,
    "<<": lambda x, y: (x << y) % LIMIT if y < 64 else 0,
    ">>": lambda x, y: x >> y if y < 64 else 0,
}
COMPARISONS = {
    "=": lambda x, y: x == y,
    "!=": lambda x, y: x != y,
    "<": lambda x, y: x < y,
    "<=": lambda x, y: x <= y,
    ">": lambda x, y: x > y,
    ">=": lambda x, y: x >= y,
}


class Missing(Exception):
    pass


def some_value(chance, depth):
    if depth == 0 or chance.random() < 0.3:
        return chance.choice([("number", chance.choice([0, 1, 2, 3, 5, 63, 64, 255, 2 ** 63, LIMIT - 1])),
                              ("len",), ("bytes", ("number", chance.randrange(12)), chance.randrange(1, 9))])
    if chance.random() < 0.2:
        return "bytes", some_value(chance, depth - 1), chance.randrange(1, 9)
    return chance.choice(sorted(OPERATIONS)), some_value(chance, depth - 1), some_value(chance, depth - 1)


def some_filter(chance, depth):
    if depth == 0 or chance.random() < 0.2:
        return chance.choice(sorted(COMPARISONS)), some_value(chance, 2), some_value(chance, 2)
    sort = chance.choice(("and", "or", "not"))
    if sort == "not":
        return sort, some_filter(chance, depth - 1)
    return sort, some_filter(chance, depth - 1), some_filter(chance, depth - 1)


def written(tree):
    sort = tree[0]
    if sort == "number":
        return str(tree[1])
    if sort == "len":
        return "len"
    if sort == "bytes":
        return f"[{written(tree[1])}:{tree[2]}]"
    if sort == "not":
        return f"not ({written(tree[1])})"
    if sort in ("and", "or"):
        return f"({written(tree[1])}) {sort} ({written(tree[2])})"
    if sort in COMPARISONS:
        return f"{written(tree[1])} {sort} {written(tree[2])}"
    return "{" + f"{written(tree[1])} {sort} {written(tree[2])}" + "}"


def meant(tree, frame):
    sort = tree[0]
    if sort == "number":
        return tree[1]
    if sort == "len":
        return len(frame)
    if sort == "bytes":
        place = meant(tree[1], frame)
        if place + tree[2] > len(frame):
            raise Missing
        return int.from_bytes(bytes(frame[place:place + tree[2]]), "big")
    if sort == "not":
        return not meant(tree[1], frame)
    if sort == "and":
        return meant(tree[1], frame) and meant(tree[2], frame)
    if sort == "or":
        return meant(tree[1], frame) or meant(tree[2], frame)
    return {**OPERATIONS, **COMPARISONS}[sort](meant(tree[1], frame), meant(tree[2], frame))


def fits(tree, frame):
    try:
        return meant(tree, frame)
    except Missing:
        return False


class Meaning(unittest.TestCase):
    def test_random_filters(self):
        chance = random.Random(7)
        outcomes = {True: 0, False: 0}
        for turn in range(1500):
            tree = some_filter(chance, 3)
            text = written(tree)
            if len(text) > 1024:
                continue
            program = compiled(text)
            for size in (1, 9, 16, 24):
                frame = [chance.choice((0, 1, 2, 5, 255)) for place in range(size)]
                self.assertEqual(says_yes(program, frame), fits(tree, frame), (text, frame))
                outcomes[fits(tree, frame)] += 1
        # A test in which one outcome is rare would say little.
        self.assertGreater(min(outcomes.values()), 500)


if __name__ == "__main__":
    unittest.main()
