"""The rules of one grammar, taken up as they come."""

THINGS = 32
MOST_SIGNS = 8
MOST_RULES = 128

RING = -1
REFUSED = -2


def is_thing(sign):
    return 0 <= sign < THINGS


def is_lone_thing(body):
    return len(body) == 1 and is_thing(body[0])


class Rules:
    # A rule's number is its place in taken, so what is refused must not be put there.
    def __init__(self):
        self.taken = []

    def forget(self):
        self.taken = []

    def take(self, head, body):
        if not is_thing(head) or not 1 <= len(body) <= MOST_SIGNS:
            return REFUSED
        if len(self.taken) >= MOST_RULES:
            return REFUSED
        if is_lone_thing(body) and self.leads_to(body[0], head):
            return RING
        self.taken.append((head, tuple(body)))
        return len(self.taken) - 1

    def bodies_of(self, thing):
        return [body for head, body in self.taken if head == thing]

    def numbers_of(self, thing):
        return [number for number, rule in enumerate(self.taken) if rule[0] == thing]

    def body_of(self, number):
        return self.taken[number][1]

    # For each thing the things that it has alone as a body: the only steps that use up no text.
    def lone_steps(self):
        steps = [[] for thing in range(THINGS)]
        for head, body in self.taken:
            if is_lone_thing(body):
                steps[head].append(body[0])
        return steps

    def leads_to(self, first, goal):
        steps = self.lone_steps()
        seen = {first: True}
        waiting = [first]
        while len(waiting) > 0:
            thing = waiting.pop()
            for step in steps[thing]:
                if step not in seen:
                    seen[step] = True
                    waiting.append(step)
        return goal in seen

    # All things, each behind those that it has alone as a body. There is such an order since rings are refused.
    def lone_order(self):
        steps = self.lone_steps()
        placed = {}
        while len(placed) < THINGS:
            for thing in range(THINGS):
                if thing not in placed and all([step in placed for step in steps[thing]]):
                    placed[thing] = True
        return list(placed)

    # The bodies of two signs and more, and what is left of them behind each sign, each such row once.
    def long_rows(self):
        rows = {}
        for head, body in self.taken:
            for place in range(len(body) - 1):
                rows[body[place:]] = True
        return list(rows)

    def letters(self):
        found = {}
        for head, body in self.taken:
            for sign in body:
                if not is_thing(sign):
                    found[sign] = True
        return list(found)
