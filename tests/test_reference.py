"""Lines of mixed calls, held against the reference."""

import unittest
from random import Random

from saidways.grammar import answers
from tests.lines import INIT, count, join, rule, split
from tests.reference import Reference

EDGES = (-2147483648, -1, 32, 33, 2147483647)


def any_thing(dice, things):
    return dice.choice(EDGES) if dice.random() < 0.04 else dice.randrange(things)


def any_body(dice, things, letters):
    size = dice.choice((0, 9, 20)) if dice.random() < 0.04 else dice.choice((1, 1, 1, 2, 2, 2, 3, 3, 4, 8))
    return [dice.randrange(things) if dice.random() < 0.6 else dice.randrange(32, 32 + letters) for sign in range(size)]


def any_text(dice, letters):
    size = dice.choice((49, 60)) if dice.random() < 0.04 else dice.randrange(9)
    text = [dice.randrange(32, 32 + letters) for number in range(size)]
    if text and dice.random() < 0.05:
        text[dice.randrange(size)] = dice.randrange(32)
    return text


def any_line(dice):
    things = dice.choice((1, 2, 3, 5, 32))
    letters = dice.choice((1, 1, 2, 3))
    rules_of_ten = dice.choice((3, 5, 8))
    calls = []
    for place in range(dice.randrange(1, 61)):
        if dice.random() < 0.01:
            calls.append(("init",))
        elif dice.randrange(10) < rules_of_ten:
            calls.append(("rule", any_thing(dice, things), any_body(dice, things, letters)))
        else:
            calls.append(("count", any_thing(dice, things), any_text(dice, letters)))
    return calls


def written(call):
    if call[0] == "init":
        return INIT
    return (rule if call[0] == "rule" else count)(call[1], *call[2])


def reference_answers(calls):
    reference = Reference()
    return [getattr(reference, call[0])(*call[1:]) for call in calls]


class ReferenceTest(unittest.TestCase):
    def test_many_lines(self):
        said = 0
        for seed in range(1500):
            calls = any_line(Random(seed))
            given = split(answers(join(written(call) for call in calls)))
            self.assertEqual(given, reference_answers(calls), (seed, calls))
            said += sum(answer[0] == 1 and len(answer) == 2 for answer in given)
        self.assertGreater(said, 2000)
