"""The document's words turned into the plainest code, to hold the program against.

It is slow and nests as deep as the ways do: for small grammars and short texts alone.
"""

from functools import lru_cache

MOST_WAYS = 18446744073709551615


class Reference:
    def __init__(self):
        self.rules = []

    def init(self):
        self.rules = []
        return [0]

    def rule(self, head, body):
        if head not in range(32) or len(body) not in range(1, 9) or len(self.rules) == 128:
            return [-2]
        if has_ring(self.rules + [(head, tuple(body))]):
            return [-1]
        self.rules.append((head, tuple(body)))
        return [len(self.rules) - 1]

    def count(self, thing, text):
        if thing not in range(32) or len(text) > 48:
            return [-2]
        ways = number_of_ways(tuple(self.rules), thing, tuple(text))
        return [int(ways > 0), min(ways, MOST_WAYS)]


def has_ring(rules):
    reached = {(head, body[0]) for head, body in rules if len(body) == 1 and body[0] < 32}
    while True:
        further = {(a, d) for a, b in reached for c, d in reached if b == c} - reached
        if not further:
            return any(a == b for a, b in reached)
        reached |= further


def number_of_ways(rules, thing, text):
    @lru_cache(maxsize=None)
    def of_sign(sign, part):
        if sign >= 32:
            return int(part == (sign,))
        return sum(of_body(body, part) for head, body in rules if head == sign)

    @lru_cache(maxsize=None)
    def of_body(body, part):
        if len(body) == 1:
            return of_sign(body[0], part) if part else 0
        return sum(of_sign(body[0], part[:cut]) * of_body(body[1:], part[cut:]) for cut in range(1, len(part)))

    return of_sign(thing, text)
