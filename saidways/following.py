"""The letters that may stand behind a text."""

from saidways.lengths import can_end, shortest_lengths
from saidways.rules import THINGS, is_thing
from saidways.ways import WayCounts


def ending_bodies(rules, lengths, thing):
    return [body for body in rules.bodies_of(thing) if can_end(lengths, body)]


# A row of signs stands at a place if the text up to there can be said so that the row is to say what comes next.
# Bodies that never come to an end are left out, so whatever stands somewhere can be said to its end.
class StandingRows:
    def __init__(self, rules, text):
        lengths = shortest_lengths(rules)
        self.counts = WayCounts(rules, text)
        self.bodies = [ending_bodies(rules, lengths, thing) for thing in range(THINGS)]
        self.seen = {}
        self.waiting = []

    def put(self, row, place):
        if (row, place) not in self.seen:
            self.seen[(row, place)] = True
            self.waiting.append((row, place))

    def walk_from(self, thing):
        self.put((thing,), 0)
        while len(self.waiting) > 0:
            standing = self.waiting.pop()
            self.go_on(standing[0], standing[1])

    def go_on(self, row, place):
        if is_thing(row[0]):
            for body in self.bodies[row[0]]:
                self.put(body, place)
        if len(row) > 1:
            for end in self.counts.ends_from(row[:1], place):
                self.put(row[1:], end)

    def letters_at(self, goal):
        return sorted(set([row[0] for row, place in self.seen if place == goal and not is_thing(row[0])]))


def letters_behind(rules, thing, text):
    rows = StandingRows(rules, text)
    rows.walk_from(thing)
    return rows.letters_at(len(text))
