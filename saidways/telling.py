"""The k-th way in which a thing says a text, told as the numbers of its rules."""

from saidways.rules import is_thing
from saidways.ways import WayCounts

MOST_NUMBERS = 256

NO_WAY = -1
TOO_MANY_NUMBERS = -3


# The part of the text from start to end, the row of signs that says it, and which of the row's ways is meant, from 0.
class Part:
    def __init__(self, row, start, end, rank):
        self.row = row
        self.start = start
        self.end = end
        self.rank = rank


class WayTeller:
    # A way may nest deeper than calls may, so the parts that are not told yet wait here, the next one last.
    def __init__(self, rules, counts):
        self.rules = rules
        self.counts = counts
        self.numbers = []
        self.waiting = []

    # Stops as soon as there are too many numbers: the rest of them is not asked for then.
    def tell(self, whole):
        self.waiting.append(whole)
        while len(self.waiting) > 0 and len(self.numbers) <= MOST_NUMBERS:
            part = self.waiting.pop()
            if len(part.row) > 1:
                self.cut_row(part)
            elif is_thing(part.row[0]):
                self.choose_rule(part)
        return self.numbers

    def choose_rule(self, part):
        rank = part.rank
        for number in self.rules.numbers_of(part.row[0]):
            body = self.rules.body_of(number)
            ways = self.counts.ways_of(body, part.start, part.end)
            if rank < ways:
                self.numbers.append(number)
                self.waiting.append(Part(body, part.start, part.end, rank))
                return
            rank -= ways

    # All ways of the rest come behind one way of the first sign, before its next way.
    def cut_row(self, part):
        first = part.row[:1]
        rest = part.row[1:]
        rank = part.rank
        for cut in range(part.start + 1, part.end):
            ways_of_rest = self.counts.ways_of(rest, cut, part.end)
            ways = self.counts.ways_of(first, part.start, cut) * ways_of_rest
            if rank < ways:
                self.waiting.append(Part(rest, cut, part.end, rank % ways_of_rest))
                self.waiting.append(Part(first, part.start, cut, rank // ways_of_rest))
                return
            rank -= ways


def tell_way(rules, thing, rank, text):
    counts = WayCounts(rules, text)
    size = len(text)
    if rank >= counts.ways_of((thing,), 0, size):
        return [NO_WAY]
    numbers = WayTeller(rules, counts).tell(Part((thing,), 0, size, rank))
    if len(numbers) > MOST_NUMBERS:
        return [TOO_MANY_NUMBERS]
    return [len(numbers)] + numbers
