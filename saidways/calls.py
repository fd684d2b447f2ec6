"""The calls of a line, read from the one list of numbers that holds them."""

INIT = 0
RULE = 1
COUNT = 2
WAY = 3
NEXT = 4

# For each of the six calls, by its number: how many whole numbers it has, and how many rows.
FORMS = ((0, 0), (1, 1), (1, 1), (2, 1), (1, 1), (1, 0))


class Call:
    def __init__(self, kind, numbers, rows):
        self.kind = kind
        self.numbers = numbers
        self.rows = rows


class Reader:
    def __init__(self, line):
        self.line = line
        self.place = 0

    def at_end(self):
        return self.place >= len(self.line)

    def take_number(self):
        number = self.line[self.place]
        self.place += 1
        return number

    def take_numbers(self, size):
        first = self.place
        self.place += size
        return self.line[first:self.place]

    def take_row(self):
        return self.take_numbers(self.take_number())

    def take_call(self):
        kind = self.take_number()
        form = FORMS[kind]
        numbers = self.take_numbers(form[0])
        rows = [self.take_row() for row in range(form[1])]
        return Call(kind, numbers, rows)


def read_calls(line):
    reader = Reader(line)
    calls = []
    while not reader.at_end():
        calls.append(reader.take_call())
    return calls
