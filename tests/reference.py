"""The document's words turned into the plainest code, to hold the program against.

It is slow and nests as deep as the ways do: for small grammars and short texts alone.
"""

from functools import lru_cache
from itertools import product

MOST_WAYS = 18446744073709551615


class Reference:
    def __init__(self):
        self.rules = []

    def init(self):
        self.rules = []
        return [0]

    def rule(self, head, body):
        if head not in range(32) or len(body) not in range(1, 9) or len(self.rules) == 128:
            return [-2]
        if has_ring(self.rules + [(head, tuple(body))]):
            return [-1]
        self.rules.append((head, tuple(body)))
        return [len(self.rules) - 1]

    def count(self, thing, text):
        if thing not in range(32) or len(text) > 48:
            return [-2]
        ways = number_of_ways(tuple(self.rules), thing, tuple(text))
        return [int(ways > 0), min(ways, MOST_WAYS)]

    def way(self, thing, k, text):
        if thing not in range(32) or len(text) > 48:
            return [-2]
        ways = ways_in_order(tuple(self.rules), thing, tuple(text))
        if k >= len(ways):
            return [-1]
        numbers = numbers_of_way(ways[k])
        return [len(numbers), *numbers] if len(numbers) <= 256 else [-3]

    def next(self, thing, text):
        if thing not in range(32) or len(text) > 48:
            return [-2]
        known = sorted({sign for head, body in self.rules for sign in body if sign >= 32})
        found = [letter for letter in known if begins_one(tuple(self.rules), thing, (*text, letter))]
        return [len(found), *found]

    def least(self, thing):
        if thing not in range(32):
            return [-2]
        return [min(shortest(tuple(self.rules)).get(thing, 0), 1000000)]


def has_ring(rules):
    reached = {(head, body[0]) for head, body in rules if len(body) == 1 and body[0] < 32}
    while True:
        further = {(a, d) for a, b in reached for c, d in reached if b == c} - reached
        if not further:
            return any(a == b for a, b in reached)
        reached |= further


@lru_cache(maxsize=8)
def counters(rules):
    """Two functions: in how many ways a sign says a part, and in how many a body does."""
    @lru_cache(maxsize=None)
    def of_sign(sign, part):
        if sign >= 32:
            return int(part == (sign,))
        return sum(of_body(body, part) for head, body in rules if head == sign)

    @lru_cache(maxsize=None)
    def of_body(body, part):
        if len(body) == 1:
            return of_sign(body[0], part) if part else 0
        return sum(of_sign(body[0], part[:cut]) * of_body(body[1:], part[cut:]) for cut in range(1, len(part)))

    return of_sign, of_body


def number_of_ways(rules, thing, text):
    return counters(rules)[0](thing, text)


@lru_cache(maxsize=8)
def ways_in_order(rules, thing, text):
    """All ways, each as its rule's number and, for each part, the part's length and way: their order is the tuples'."""
    number_of_sign, number_of_body = counters(rules)

    def of_sign(sign, part):
        if sign >= 32:
            return [()]
        return [(number, parts) for number, (head, body) in enumerate(rules) if head == sign
                for parts in of_body(body, part)]

    def of_body(body, part):
        if len(body) == 1:
            return [((len(part), way),) for way in of_sign(body[0], part)] if number_of_body(body, part) else []
        cuts = [(part[:cut], part[cut:]) for cut in range(1, len(part))]
        return [((len(first), way), *others) for first, rest in cuts
                if number_of_sign(body[0], first) and number_of_body(body[1:], rest)
                for way, others in product(of_sign(body[0], first), of_body(body[1:], rest))]

    return sorted(of_sign(thing, text))


def numbers_of_way(way):
    if way == ():
        return []
    number, parts = way
    return [number] + [inner for size, part in parts for inner in numbers_of_way(part)]


@lru_cache(maxsize=64)
def shortest(rules):
    """The length of the shortest text of each thing that says one, with ever more things within one another."""
    lengths = {}
    for depth in range(32):
        deeper = {}
        for head, body in rules:
            if all(sign >= 32 or sign in lengths for sign in body):
                length = sum(lengths.get(sign, 1) for sign in body)
                deeper[head] = min(length, deeper.get(head, length))
        lengths = deeper
    return lengths


def begins_one(rules, thing, text):
    """Whether a text that the thing says begins with this one, which is not empty."""
    return all(number >= 32 for number in text) and text in beginnings(rules, text).get(thing, ())


@lru_cache(maxsize=64)
def beginnings(rules, text):
    """For each thing those ends of the text with which a text that it says begins."""
    ending = shortest(rules)
    bodies = [(head, body) for head, body in rules if all(sign >= 32 or sign in ending for sign in body)]
    ends = [text[start:] for start in range(len(text))]
    found = {thing: set() for thing in range(32)}

    def body_begins(body, end):
        if not end:
            return True
        if not body:
            return False
        if end == (body[0],) or end in found.get(body[0], ()):
            return True
        return any(number_of_ways(rules, body[0], end[:cut]) and body_begins(body[1:], end[cut:])
                   for cut in range(1, len(end)))

    while True:
        further = [(head, end) for head, body in bodies for end in ends
                   if end not in found[head] and body_begins(body, end)]
        if not further:
            return found
        for head, end in further:
            found[head].add(end)
