"""In how many ways the things of a grammar say the parts of one text."""

from saidways.rules import THINGS

MOST_WAYS = 18446744073709551615


# A row is a tuple of signs. ends[row][start] tells, for each end where the row says the part
# of the text from start to end, in how many ways; where it says the part in none, nothing is kept.
class WayCounts:
    def __init__(self, rules, text):
        self.text = text
        self.order = rules.lone_order()
        self.bodies = [rules.bodies_of(thing) for thing in range(THINGS)]
        self.long_ones = rules.long_rows()
        self.ends = {}
        for row in self.long_ones + [(thing,) for thing in range(THINGS)]:
            self.ends[row] = self.no_ends()
        for letter in rules.letters():
            self.ends[(letter,)] = self.ends_of_letter(letter)
        self.fill()

    def no_ends(self):
        return [{} for start in range(len(self.text) + 1)]

    def ends_of_letter(self, letter):
        ends = self.no_ends()
        for start, number in enumerate(self.text):
            if number == letter:
                ends[start][start + 1] = 1
        return ends

    # Every part is filled behind those that it is made of: the parts that start later,
    # and of those with the same start the shorter ones.
    def fill(self):
        size = len(self.text)
        for start in range(size - 1, -1, -1):
            for end in range(start + 1, size + 1):
                self.fill_part(start, end)

    # A long row is made of shorter parts alone. A thing may stand for a long row, or for another thing,
    # of the same part, so the things come last, and in their order.
    def fill_part(self, start, end):
        for row in self.long_ones:
            self.keep(row, start, end, self.sum_of_cuts(row, start, end))
        for thing in self.order:
            self.keep((thing,), start, end, self.sum_of_bodies(thing, start, end))

    def sum_of_cuts(self, row, start, end):
        rest = self.ends[row[1:]]
        total = 0
        for cut, ways in self.ends[row[:1]][start].items():
            total += ways * rest[cut].get(end, 0)
        return total

    def sum_of_bodies(self, thing, start, end):
        total = 0
        for body in self.bodies[thing]:
            total += self.ends[body][start].get(end, 0)
        return total

    # What is more than the most stays so in every sum and product, so nothing is lost by stopping there.
    # It stops one above the most, since the most is a way's place too, counted from 0.
    def keep(self, row, start, end, ways):
        if ways > 0:
            self.ends[row][start][end] = min(ways, MOST_WAYS + 1)

    def ways_of(self, row, start, end):
        return self.ends[row][start].get(end, 0)

    def ends_from(self, row, start):
        return list(self.ends[row][start])


def count_ways(rules, thing, text):
    return min(WayCounts(rules, text).ways_of((thing,), 0, len(text)), MOST_WAYS)
