"""Point 4: way."""

import unittest
from math import comb

from saidways.rules import Rules
from saidways.telling import tell_way
from tests.lines import INIT, MOST_WAYS, asked_in_turn, count, last, letters, rule, told, way
from tests.reference import Reference

LOWEST = -2147483648
HIGHEST = 2147483647

PAIRS = (rule(0, 0, 0), rule(0, 97))
CHAIN = tuple(rule(thing, thing + 1) for thing in range(31))


def catalan(number):
    return comb(2 * number, number) // (number + 1)


def reference_of(rules):
    reference = Reference()
    for call in rules:
        reference.rule(call[1], call[3:])
    return reference


def taken(*rules):
    made = Rules()
    for call in rules:
        made.take(call[1], call[3:])
    return made


class WayTest(unittest.TestCase):
    def told_ways(self, rules, thing, text):
        """All ways of the text, from 0 on, when they were found to be as many as count tells, and none behind them."""
        number = last(*rules, count(thing, *text))[1]
        found = asked_in_turn(rules, [way(thing, k, *text) for k in range(number + 2)])
        self.assertEqual(found[number:], [[-1], [-1]])
        self.assertNotIn([-1], found[:number])
        return found[:number]

    def assert_as_listed(self, rules, thing, text):
        reference = reference_of(rules)
        found = self.told_ways(rules, thing, text)
        self.assertEqual(found, [reference.way(thing, k, text) for k in range(len(found))])
        self.assertEqual(reference.way(thing, len(found), text), [-1])
        return found


class OrderTest(WayTest):
    def test_one_way(self):
        self.assertEqual(last(rule(5, 97), way(5, 0, 97)), [1, 0])
        self.assertEqual(last(rule(1, 98), rule(0, 97), rule(5, 0, 1), way(5, 0, 97, 98)), [3, 2, 1, 0])
        self.assertEqual(last(rule(0, 97, 98, 99), way(0, 0, 97, 98, 99)), [1, 0])

    def test_by_the_number_of_the_rule_whatever_its_length(self):
        rules = (rule(0, 1, 1, 1), rule(0, 2), rule(0, 1, 2), rule(1, 97), rule(2, 97, 97, 97), rule(2, 97, 97),
                 rule(0, 97, 97, 97))
        self.assertEqual(self.told_ways(rules, 0, [97] * 3), [[4, 0, 3, 3, 3], [2, 1, 4], [3, 2, 3, 5], [1, 6]])

    def test_the_same_rule_twice(self):
        rules = (rule(0, 97), rule(1, 98), rule(0, 97), rule(2, 0, 1), rule(2, 0, 1))
        self.assertEqual(self.told_ways(rules, 0, [97]), [[1, 0], [1, 2]])
        self.assertEqual(self.told_ways(rules, 2, [97, 98]), [[3, 3, 0, 1], [3, 3, 2, 1], [3, 4, 0, 1], [3, 4, 2, 1]])

    def test_the_shorter_first_part_first(self):
        runs = (rule(1, 97, 97, 97), rule(1, 97, 97), rule(1, 97), rule(0, 1, 1))
        self.assertEqual(self.told_ways(runs, 0, [97] * 4), [[3, 3, 2, 0], [3, 3, 1, 1], [3, 3, 0, 2]])

    def test_the_length_ahead_of_the_way(self):
        rules = (rule(1, 97, 97), rule(1, 97), rule(1, 97), rule(2, 97, 97), rule(2, 97), rule(0, 1, 2))
        self.assertEqual(self.told_ways(rules, 0, [97] * 3), [[3, 5, 1, 3], [3, 5, 2, 3], [3, 5, 0, 4]])

    def test_the_first_part_ahead_of_the_second(self):
        rules = (rule(2, 98), rule(1, 97), rule(2, 98), rule(1, 97), rule(0, 1, 2))
        self.assertEqual(self.told_ways(rules, 0, [97, 98]), [[3, 4, 1, 0], [3, 4, 1, 2], [3, 4, 3, 0], [3, 4, 3, 2]])

    def test_the_first_way_ahead_of_the_second_length(self):
        rules = (rule(0, 1, 2, 2), rule(1, 97), rule(1, 97), rule(2, 97), rule(2, 97, 97))
        self.assertEqual(self.told_ways(rules, 0, [97] * 4),
                         [[4, 0, 1, 3, 4], [4, 0, 1, 4, 3], [4, 0, 2, 3, 4], [4, 0, 2, 4, 3]])

    def test_letters_between_the_parts(self):
        sums = (rule(0, 49), rule(0, 0, 42, 0), rule(0, 0, 43, 0))
        self.assertEqual(self.told_ways(sums, 0, letters("1+1*1")), [[5, 1, 2, 0, 0, 0], [5, 2, 0, 1, 0, 0]])

    def test_a_rule_that_says_another_text_is_left_out(self):
        rules = (rule(0, 98), rule(0, 3), rule(0, 97, 97), rule(0, 97), rule(0, 1), rule(1, 98), rule(1, 97))
        self.assertEqual(self.told_ways(rules, 0, [97]), [[1, 3], [2, 4, 6]])


class ListedTest(WayTest):
    def test_pairs_of_some_lengths(self):
        for size in range(9):
            self.assertEqual(len(self.assert_as_listed(PAIRS, 0, [97] * size)), catalan(size - 1) if size else 0)

    def test_pairs_the_other_way_round(self):
        self.assertEqual(self.told_ways(PAIRS[::-1], 0, [97] * 3), [[5, 1, 0, 1, 0, 0], [5, 1, 1, 0, 0, 0]])
        self.assert_as_listed(PAIRS[::-1], 0, [97] * 6)

    def test_many_cuts(self):
        rules = (rule(1, 97, 1), rule(1, 97), rule(0, 1, 1, 1, 1), rule(0, 1, 0), rule(0, 1, 1), rule(1, 2),
                 rule(2, 97))
        self.assertGreater(len(self.assert_as_listed(rules, 0, [97] * 6)), 100)

    def test_bodies_of_eight(self):
        rules = (rule(0, *[1] * 8), rule(1, 97), rule(1, 97))
        found = self.assert_as_listed(rules, 0, [97] * 8)
        self.assertEqual(found, [[9, 0] + [1 + (k >> place & 1) for place in range(7, -1, -1)] for k in range(256)])

    def test_3000_ways(self):
        tens = [rule(thing, 97) for thing in (4, 3, 2) for again in range(10)]
        rules = tens + [rule(1, 97)] * 3 + [rule(0, 1, 2, 3, 4)]
        found = self.told_ways(rules, 0, [97] * 4)
        self.assertEqual(found, [[5, 33, 30 + k // 1000, 20 + k // 100 % 10, 10 + k // 10 % 10, k % 10]
                                 for k in range(3000)])


class EdgesTest(WayTest):
    def test_k_at_its_edges(self):
        asked = [way(0, k, *[97] * 4) for k in (0, 4, 5, 6, 2 ** 63, MOST_WAYS - 1, MOST_WAYS)]
        self.assertEqual(told(*PAIRS, *asked)[2:],
                         [[7, 0, 1, 0, 1, 0, 1, 1], [7, 0, 0, 0, 1, 1, 1, 1], [-1], [-1], [-1], [-1], [-1]])

    def test_nothing_says_the_text(self):
        texts = ((0, [98]), (1, [97]), (0, [97, 98]))
        asked = [way(thing, k, *text) for thing, text in texts for k in (0, 1, MOST_WAYS)]
        self.assertEqual(told(*PAIRS, *asked)[2:], [[-1]] * 9)
        self.assertEqual(last(way(0, 0, 97)), [-1])
        self.assertEqual(last(rule(0, 0, 0), way(0, 0, 97)), [-1])

    def test_the_empty_text(self):
        self.assertEqual(told(way(0, 0), *PAIRS, way(0, 0), way(0, MOST_WAYS)), [[-1], [0], [1], [-1], [-1]])

    def test_no_letter_below_32(self):
        for number in (0, 1, 31):
            self.assertEqual(last(*PAIRS, way(0, 0, number)), [-1])
            self.assertEqual(last(*PAIRS, rule(0, 97, number), way(0, 0, 97, number)), [-1])
            self.assertEqual(last(*PAIRS, way(0, 0, 97, number, 97)), [-1])

    def test_letters_at_their_edges(self):
        self.assertEqual(last(rule(0, 32, 255), way(0, 0, 32, 255)), [1, 0])

    def test_from_at_its_edges(self):
        rules = (rule(0, 97), rule(31, 97))
        self.assertEqual(last(*rules, way(0, 0, 97)), [1, 0])
        self.assertEqual(last(*rules, way(31, 0, 97)), [1, 1])
        for thing in (LOWEST, -1, 32, 97, HIGHEST):
            for text in ([97], [], [5], [97] * 8, [97] * 60):
                self.assertEqual(told(*rules, way(thing, 0, *text), way(thing, MOST_WAYS, *text))[2:], [[-2], [-2]])

    def test_texts_of_some_lengths(self):
        runs = (rule(0, 97), rule(0, 97, 0))
        self.assertEqual(last(*runs, way(0, 0)), [-1])
        self.assertEqual(last(*runs, way(0, 0, 97)), [1, 0])
        self.assertEqual(last(*runs, way(0, 0, *[97] * 8)), [8, 1, 1, 1, 1, 1, 1, 1, 0])
        for size in (49, 50, 60):
            self.assertEqual(told(*runs, way(0, 0, *[97] * size), way(1, MOST_WAYS, *[5] * size))[2:], [[-2], [-2]])

    def test_changes_nothing(self):
        asked = (way(32, 0, 97), way(0, 0, *[97] * 49), way(0, 5, 97), way(0, 0), way(0, 0, 97, 97))
        self.assertEqual(told(*PAIRS, *asked, *asked, rule(0, 97), way(0, 1, 97), count(0, 97)),
                         [[0], [1]] + [[-2], [-2], [-1], [-1], [3, 0, 1, 1]] * 2 + [[2], [1, 2], [1, 2]])

    def test_rules_so_far_alone(self):
        self.assertEqual(told(way(0, 0, 97), rule(0, 1), way(0, 0, 97), rule(1, 97), way(0, 0, 97), way(0, 1, 97),
                              rule(0, 97), way(0, 0, 97), way(0, 1, 97), rule(1, 1), way(0, 2, 97)),
                         [[-1], [0], [-1], [1], [2, 0, 1], [-1], [2], [2, 0, 1], [1, 2], [-1], [-1]])

    def test_no_rules_behind_init(self):
        self.assertEqual(told(*PAIRS, way(0, 0, 97), INIT, way(0, 0, 97), rule(0, 97), way(0, 0, 97), way(0, 1, 97)),
                         [[0], [1], [1, 1], [0], [-1], [0], [1, 0], [-1]])


class LengthTest(WayTest):
    # Thing 0 says "a" by itself or two parts of its kind, 17 things each: 15 parts for 8 letters, 255 numbers.
    TALL = (*[rule(thing, thing + 1) for thing in range(16)], rule(16, 97), rule(16, 0, 0), rule(20, 0), rule(21, 20),
            rule(22, 21))

    def test_255_256_257(self):
        first = list(range(16)) + [17] + list(range(16)) + [16]
        whole = first * 7 + first[17:]
        self.assertEqual(len(whole), 255)
        self.assertEqual(last(*self.TALL, way(0, 0, *[97] * 8)), [255, *whole])
        self.assertEqual(last(*self.TALL, way(20, 0, *[97] * 8)), [256, 18, *whole])
        self.assertEqual(last(*self.TALL, way(21, 0, *[97] * 8)), [-3])
        self.assertEqual(last(*self.TALL, way(22, 0, *[97] * 8)), [-3])

    def test_none_comes_ahead_of_too_long(self):
        asked = [way(21, k, *[97] * 8) for k in (427, 428, 429, MOST_WAYS)]
        self.assertEqual(told(*self.TALL, *asked)[-4:], [[-3], [-3], [-1], [-1]])

    def test_one_told_and_another_too_long(self):
        rules = (rule(21, *[97] * 8), *self.TALL, rule(21, *[97] * 8))
        asked = [way(21, k, *[97] * 8) for k in (0, 1, 429, 430, 431)]
        self.assertEqual(told(*rules, *asked)[-5:], [[1, 0], [-3], [-3], [1, 22], [-1]])

    def test_far_too_long(self):
        rules = (*CHAIN, rule(31, 0, 0), rule(31, 97))
        self.assertEqual(last(*rules, way(0, 0, *[97] * 4)),
                         [224] + (list(range(32)) + list(range(31)) + [32]) * 3 + list(range(31)) + [32])
        self.assertEqual(told(*rules, way(0, 0, *[97] * 5), way(0, 0, *[97] * 8), way(0, 428, *[97] * 8),
                              way(0, 429, *[97] * 8))[-4:], [[-3], [-3], [-3], [-1]])

    def test_changes_nothing(self):
        tall = way(21, 0, *[97] * 8)
        self.assertEqual(told(*self.TALL, tall, way(0, 0, 97), tall, rule(21, 97))[-4:],
                         [[-3], [17, *range(17)], [-3], [21]])

    def test_31_behind_one_another(self):
        steps = list(range(31))
        self.assertEqual(last(*CHAIN, rule(31, *[97] * 8), way(0, 0, *[97] * 8)), [32, *steps, 31])
        to_the_right = (*CHAIN, rule(31, 97), rule(31, 97, 0))
        self.assertEqual(last(*to_the_right, way(0, 0, *[97] * 8)), [256, *(steps + [32]) * 7, *steps, 31])
        self.assertEqual(last(*to_the_right, way(1, 0, *[97] * 8)), [255, *((steps + [32]) * 7)[1:], *steps, 31])
        to_the_left = (*CHAIN, rule(31, 97), rule(31, 0, 97))
        self.assertEqual(last(*to_the_left, way(0, 0, *[97] * 8)), [256, *(steps + [32]) * 7, *steps, 31])
        self.assertEqual(last(*to_the_left, way(0, 1, *[97] * 8)), [-1])


# The interface hands in no texts from 9 to 48, and no way among more than 3000, yet the promise speaks of them.
class BeneathTest(unittest.TestCase):
    def pair_way(self, size, k):
        """The k-th way of so many letters in PAIRS, by the numbers of Catalan alone."""
        if size == 1:
            return [1]
        for first in range(1, size):
            ways_of_rest = catalan(size - first - 1)
            ways = catalan(first - 1) * ways_of_rest
            if k < ways:
                return [0] + self.pair_way(first, k // ways_of_rest) + self.pair_way(size - first, k % ways_of_rest)
            k -= ways
        return None

    def test_far_places(self):
        pairs = taken(*PAIRS)
        for size in (9, 20, 36, 37, 38, 48):
            for k in (0, 1, 10 ** 9, 2 ** 63, MOST_WAYS - 1, MOST_WAYS):
                expected = self.pair_way(size, k)
                self.assertEqual(tell_way(pairs, 0, k, [97] * size),
                                 [-1] if expected is None else [len(expected), *expected], (size, k))

    def test_deeper_than_a_thousand(self):
        for body in ((97, 0), (0, 97)):
            grammar = taken(*CHAIN, rule(31, 97), rule(31, *body), rule(0, *[97] * 8))
            self.assertEqual(tell_way(grammar, 0, 0, [97] * 48), [-3])
        runs = taken(rule(0, 97), rule(0, 97, 0))
        self.assertEqual(tell_way(runs, 0, 0, [97] * 48), [48] + [1] * 47 + [0])
        self.assertEqual(tell_way(runs, 0, 1, [97] * 48), [-1])
