"""Point 2: rule."""

import unittest

from saidways.rules import Rules
from tests.lines import count, last, told, rule

LOWEST = -2147483648
HIGHEST = 2147483647


class RuleTest(unittest.TestCase):
    def test_numbers_rise_from_zero(self):
        self.assertEqual(told(rule(3, 97), rule(0, 3, 3), rule(31, 255)), [[0], [1], [2]])

    def test_the_same_rule_may_come_twice(self):
        self.assertEqual(told(rule(0, 97), rule(0, 97), rule(0, 1), rule(0, 1)), [[0], [1], [2], [3]])

    def test_the_rule_is_there(self):
        self.assertEqual(told(count(2, 97, 98), rule(2, 97, 98), count(2, 97, 98)), [[0, 0], [0], [1, 1]])

    def test_heads_at_their_edges(self):
        self.assertEqual(told(rule(0, 97), rule(31, 97)), [[0], [1]])
        for head in (LOWEST, -1, 32, 97, 255, HIGHEST):
            self.assertEqual(told(rule(head, 97)), [[-2]], head)

    def test_bodies_of_some_sizes(self):
        for size in range(1, 9):
            body = [97] * size
            self.assertEqual(told(rule(0, *body), count(0, *body)), [[0], [1, 1]], size)
        for size in (0, 9, 10, 20):
            self.assertEqual(told(rule(0, *[97] * size)), [[-2]], size)

    def test_a_body_too_long_of_things_alone(self):
        self.assertEqual(told(rule(0, *[1] * 9), rule(0, *[0] * 20)), [[-2], [-2]])

    def test_signs_at_their_edges(self):
        for sign in (0, 1, 31, 32, 255):
            self.assertEqual(told(rule(5, sign)), [[0]], sign)

    def test_a_refusal_changes_nothing(self):
        self.assertEqual(told(rule(0, 97), rule(-1, 97), rule(32, 97), rule(0), rule(0, *[97] * 9), rule(0, 98),
                              count(0, 97), count(0, *[97] * 8)),
                         [[0], [-2], [-2], [-2], [-2], [1], [1, 1], [0, 0]])


class RingTest(unittest.TestCase):
    def test_of_one(self):
        for thing in (0, 7, 31):
            self.assertEqual(told(rule(thing, thing)), [[-1]])

    def test_of_two(self):
        self.assertEqual(told(rule(0, 1), rule(1, 0)), [[0], [-1]])
        self.assertEqual(told(rule(31, 4), rule(4, 31)), [[0], [-1]])

    def test_of_three_closed_at_any_place(self):
        for first in range(3):
            calls = [rule((first + step) % 3, (first + step + 1) % 3) for step in range(3)]
            self.assertEqual(told(*calls), [[0], [1], [-1]])

    def test_of_three_with_the_middle_last(self):
        self.assertEqual(told(rule(0, 1), rule(2, 0), rule(1, 2)), [[0], [1], [-1]])

    def test_of_all_things(self):
        calls = [rule(thing, thing + 1) for thing in range(31)] + [rule(31, 0)]
        self.assertEqual(told(*calls), [[number] for number in range(31)] + [[-1]])

    def test_to_the_middle_of_a_chain(self):
        self.assertEqual(told(rule(0, 1), rule(1, 2), rule(2, 3), rule(3, 1)), [[0], [1], [2], [-1]])

    def test_by_one_of_several_branches(self):
        self.assertEqual(told(rule(0, 1), rule(0, 2), rule(1, 3), rule(2, 4), rule(4, 5), rule(5, 0), rule(3, 0)),
                         [[0], [1], [2], [3], [4], [-1], [-1]])

    def test_with_other_rules_of_the_things(self):
        self.assertEqual(told(rule(0, 97), rule(1, 0, 0), rule(0, 1), rule(1, 98), rule(1, 0)),
                         [[0], [1], [2], [3], [-1]])

    def test_changes_nothing(self):
        self.assertEqual(told(rule(0, 1), rule(1, 0), rule(1, 97), count(0, 97), count(1, 97), rule(1, 1),
                              rule(2, 0), count(2, 97)),
                         [[0], [-1], [1], [1, 1], [1, 1], [-1], [2], [1, 1]])

    def test_what_was_refused_is_no_step_of_another(self):
        self.assertEqual(told(rule(0, 1), rule(1, 0), rule(2, 1), rule(0, 2)), [[0], [-1], [1], [2]])
        self.assertEqual(told(rule(32, 0), rule(0, 1), rule(1, 2, 2), rule(2, 0)), [[-2], [0], [1], [2]])

    def test_a_longer_body_makes_none(self):
        self.assertEqual(told(rule(0, 0, 0), rule(0, 97, 0), rule(0, 0, 97), rule(0, 1), rule(1, 0, 1), rule(1, 97, 0)),
                         [[0], [1], [2], [3], [4], [5]])

    def test_a_letter_makes_none(self):
        self.assertEqual(told(rule(0, 32), rule(1, 33), rule(31, 255)), [[0], [1], [2]])

    def test_two_paths_to_one_thing_make_none(self):
        self.assertEqual(told(rule(0, 1), rule(0, 2), rule(1, 3), rule(2, 3), rule(0, 3), rule(0, 3)),
                         [[0], [1], [2], [3], [4], [5]])

    def test_a_chain_makes_none(self):
        calls = [rule(thing, thing - 1) for thing in range(31, 0, -1)]
        self.assertEqual(told(*calls), [[number] for number in range(31)])

    def test_a_refusal_comes_first(self):
        self.assertEqual(told(rule(-1, 0), rule(32, 32), rule(0, *[0] * 9)), [[-2], [-2], [-2]])


class ManyRulesTest(unittest.TestCase):
    # A line has 60 calls at most, so this lies beneath the interface.
    def setUp(self):
        self.rules = Rules()

    def fill(self):
        return [self.rules.take(number % 32, [97, number]) for number in range(128)]

    def test_128_are_taken_and_no_more(self):
        self.assertEqual(self.fill(), list(range(128)))
        self.assertEqual(self.rules.take(0, [97]), -2)
        self.assertEqual(self.rules.take(0, [97, 0]), -2)
        self.assertEqual(len(self.rules.taken), 128)

    def test_full_comes_ahead_of_a_ring(self):
        self.fill()
        self.assertEqual(self.rules.take(0, [0]), -2)

    def test_refused_ones_do_not_count(self):
        for number in range(127):
            self.assertEqual(self.rules.take(3, [97]), number)
            self.assertEqual(self.rules.take(3, [3]), -1)
            self.assertEqual(self.rules.take(3, []), -2)
        self.assertEqual(self.rules.take(3, [97]), 127)
        self.assertEqual(self.rules.take(3, [97]), -2)

    def test_forgotten_ones_do_not_count(self):
        self.fill()
        self.rules.forget()
        self.assertEqual(self.fill(), list(range(128)))

    def test_what_is_handed_in_is_not_kept(self):
        body = [97, 98]
        self.rules.take(0, body)
        body[0] = 99
        self.assertEqual(self.rules.taken, [(0, (97, 98))])


class LastInALineTest(unittest.TestCase):
    def test_the_sixtieth_call(self):
        self.assertEqual(last(*[rule(number % 32, 97, 98) for number in range(60)]), [59])
