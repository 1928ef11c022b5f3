"""The document's grammar as rules, and a reader of them that shares nothing with the program's.

It tells how many tokens of a row some filter begins with, and whether the row is a filter.
"""

RULES = {
    "filter": ["both", "filter or both"],
    "both": ["test", "both and test"],
    "test": ["value compare value", "not test", "( filter )"],
    "compare": ["=", "!=", "<", "<=", ">", ">="],
    "value": ["term", "value + term", "value - term", "value | term"],
    "term": ["part", "term * part", "term & part", "term << part", "term >> part"],
    "part": ["0", "1", "8", "9", "len", "kind", "[ value ]", "[ value : size ]", "{ value }"],
    "size": ["1", "8"],
}
TOKENS = sorted({word for rights in RULES.values() for right in rights for word in right.split()} - set(RULES))


def closed(items, sets):
    """The items and all that follow from them at this place."""
    todo = list(items)
    place = len(sets)
    found = set(todo)
    while todo:
        left, right, dot, start = todo.pop()
        if dot == len(right):
            origin = sets[start] if start < place else found
            fresh = [(l, r, d + 1, s) for l, r, d, s in origin if d < len(r) and r[d] == left]
        else:
            fresh = [(right[dot], tuple(r.split()), 0, place) for r in RULES.get(right[dot], [])]
        for item in fresh:
            if item not in found:
                found.add(item)
                todo.append(item)
    return found


def read(tokens):
    """How many tokens some filter begins with, and whether all of them are a filter."""
    sets = []
    items = [("filter", tuple(right.split()), 0, 0) for right in RULES["filter"]]
    for place, token in enumerate(tokens):
        current = closed(items, sets)
        sets.append(current)
        items = [(l, r, d + 1, s) for l, r, d, s in current if d < len(r) and r[d] == token]
        if not items:
            return place, False
    whole = any(l == "filter" and d == len(r) and s == 0 for l, r, d, s in closed(items, sets))
    return len(tokens), whole
