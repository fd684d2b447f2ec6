"""Lines of mixed calls, held against the reference."""

import unittest
from random import Random

from saidways.grammar import answers
from tests.lines import INIT, MOST_WAYS, count, following, join, least, rule, split, way
from tests.reference import Reference

EDGES = (-2147483648, -1, 32, 33, 2147483647)
MOST_WAYS_ASKED = 3000


def any_thing(dice, things):
    return dice.choice(EDGES) if dice.random() < 0.04 else dice.randrange(things)


def any_body(dice, things, letters):
    size = dice.choice((0, 9, 20)) if dice.random() < 0.04 else dice.choice((1, 1, 1, 2, 2, 2, 3, 3, 4, 8))
    return [dice.randrange(things) if dice.random() < 0.5 else dice.randrange(32, 32 + letters) for sign in range(size)]


def any_text(dice, letters):
    size = dice.choice((49, 60)) if dice.random() < 0.04 else dice.randrange(9)
    text = [dice.randrange(32, 32 + letters) for number in range(size)]
    if text and dice.random() < 0.05:
        text[dice.randrange(size)] = dice.randrange(32)
    return text


def any_place(dice, ways):
    return dice.choice((0, ways, MOST_WAYS)) if ways == 0 or dice.random() < 0.2 else dice.randrange(ways)


def any_question(dice, reference, things, letters):
    """A call that asks; way only where there are no more ways than may be asked for."""
    thing = any_thing(dice, things)
    text = any_text(dice, letters)
    name = dice.choice(("count", "way", "way", "next", "next", "least"))
    if name == "least":
        return (name, thing)
    if name == "way":
        ways = reference.count(thing, text)[-1]
        if ways <= MOST_WAYS_ASKED:
            return (name, thing, any_place(dice, max(ways, 0)), text)
        name = "count"
    return (name, thing, text)


def any_line(dice, size):
    """The calls of a line, and what the reference answers to each."""
    things = dice.choice((1, 2, 3, 4, 5, 8, 32))
    letters = dice.choice((1, 1, 2, 3))
    rules_of_ten = dice.choice((3, 5, 8))
    reference = Reference()
    calls = []
    expected = []
    for place in range(size):
        if dice.random() < 0.01:
            call = ("init",)
        elif dice.randrange(10) < rules_of_ten:
            call = ("rule", any_thing(dice, things), any_body(dice, things, letters))
        else:
            call = any_question(dice, reference, things, letters)
        calls.append(call)
        expected.append(getattr(reference, call[0])(*call[1:]))
    return calls, expected


def written(call):
    name, *numbers = call
    if name == "init":
        return INIT
    if name == "least":
        return least(*numbers)
    row = numbers.pop()
    return {"rule": rule, "count": count, "way": way, "next": following}[name](*numbers, *row)


class ReferenceTest(unittest.TestCase):
    def setUp(self):
        # How often each call was answered by more than a refusal or a zero.
        self.answered = dict.fromkeys(("init", "rule", "count", "way", "next", "least"), 0)

    def hold(self, seed, calls, expected):
        line = join(written(call) for call in calls)
        copied = list(line)
        first = answers(line)
        self.assertEqual(split(first), expected, (seed, calls))
        self.assertEqual(line, copied, seed)
        self.assertEqual(answers(line), first, seed)
        for call, answer in zip(calls, expected):
            self.answered[call[0]] += answer[0] > 0

    def assert_answered(self, count_of, way_of, next_of, least_of):
        self.assertGreater(self.answered["count"], count_of)
        self.assertGreater(self.answered["way"], way_of)
        self.assertGreater(self.answered["next"], next_of)
        self.assertGreater(self.answered["least"], least_of)

    def test_lines_of_sixty(self):
        for seed in range(250):
            self.hold(seed, *any_line(Random(seed), 60))
        self.assert_answered(250, 250, 500, 400)

    def test_lines_of_any_size(self):
        for seed in range(1000, 1300):
            dice = Random(seed)
            self.hold(seed, *any_line(dice, dice.randrange(1, 61)))
        self.assert_answered(80, 80, 200, 180)
