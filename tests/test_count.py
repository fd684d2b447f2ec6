"""Point 3: count."""

import unittest
from math import comb

from saidways.rules import Rules
from saidways.ways import count_ways
from tests.lines import MOST_WAYS, count, last, letters, rule, told

LOWEST = -2147483648
HIGHEST = 2147483647

PAIRS = (rule(0, 0, 0), rule(0, 97))


def catalan(number):
    return comb(2 * number, number) // (number + 1)


def taken(*rules):
    made = Rules()
    for head, body in rules:
        made.take(head, body)
    return made


class CountTest(unittest.TestCase):
    def test_in_no_way(self):
        self.assertEqual(told(rule(0, 97), count(0, 98), count(0, 97, 97), count(1, 97))[1:], [[0, 0], [0, 0], [0, 0]])

    def test_in_one_way(self):
        self.assertEqual(last(rule(0, 40, 0, 41), rule(0, 97), count(0, *letters("(((a)))"))), [1, 1])
        self.assertEqual(last(rule(0, 40, 0, 41), rule(0, 97), count(0, *letters("(((a))"))), [0, 0])

    def test_in_several_ways(self):
        sums = (rule(0, 0, 43, 0), rule(0, 0, 42, 0), rule(0, 49))
        self.assertEqual(last(*sums, count(0, *letters("1+1"))), [1, 1])
        self.assertEqual(last(*sums, count(0, *letters("1+1*1"))), [1, 2])
        self.assertEqual(last(*sums, count(0, *letters("1+1*1+1"))), [1, 5])
        self.assertEqual(last(*sums, count(0, *letters("1+1*1+"))), [0, 0])

    def test_each_cut_is_a_way_of_its_own(self):
        runs = (rule(1, 97), rule(1, 97, 1))
        self.assertEqual(last(*runs, rule(0, 1, 1), count(0, *[97] * 8)), [1, 7])
        self.assertEqual(last(*runs, rule(0, 1, 1, 1), count(0, *[97] * 8)), [1, comb(7, 2)])
        self.assertEqual(last(*runs, rule(0, *[1] * 8), count(0, *[97] * 8)), [1, 1])
        self.assertEqual(last(*runs, rule(0, *[1] * 8), count(0, *[97] * 7)), [0, 0])

    def test_each_way_of_a_part_is_a_way_of_its_own(self):
        self.assertEqual(last(rule(0, 1, 2), rule(1, 97), rule(1, 3), rule(3, 97), rule(2, 98), rule(2, 98),
                              rule(2, 4), rule(4, 98), count(0, 97, 98)), [1, 6])

    def test_the_same_rule_twice_is_two_ways(self):
        self.assertEqual(last(rule(0, 97), rule(0, 97), count(0, 97)), [1, 2])
        self.assertEqual(last(rule(0, 1, 1), rule(0, 1, 1), rule(1, 97), rule(1, 97), rule(1, 97),
                              count(0, 97, 97)), [1, 18])

    def test_a_thing_alone_as_a_body(self):
        self.assertEqual(last(rule(0, 1), rule(1, 97), count(0, 97)), [1, 1])
        self.assertEqual(last(rule(1, 0), rule(0, 97), count(1, 97)), [1, 1])
        self.assertEqual(last(rule(0, 1), rule(0, 2), rule(1, 3), rule(2, 3), rule(3, 97), rule(1, 97),
                              count(0, 97)), [1, 3])
        self.assertEqual(last(rule(2, 5), rule(5, 3), rule(3, 9), rule(9, 1), rule(1, 97, 98), rule(2, 3),
                              count(2, 97, 98)), [1, 2])

    def test_a_thing_that_is_no_head_says_nothing(self):
        self.assertEqual(last(rule(0, 1), count(0, 97)), [0, 0])
        self.assertEqual(last(rule(0, 97, 1), rule(0, 97), count(0, 97, 97)), [0, 0])

    def test_things_that_never_end_say_nothing(self):
        self.assertEqual(last(rule(0, 0, 0), count(0, 97, 97)), [0, 0])
        self.assertEqual(last(rule(0, 97, 1), rule(1, 97, 0), count(0, *[97] * 8)), [0, 0])

    def test_all_rules_so_far_and_no_later_ones(self):
        self.assertEqual(told(rule(0, 97), count(0, 97), rule(0, 97), count(0, 97), rule(0, 1), count(0, 97),
                              rule(1, 97), count(0, 97)),
                         [[0], [1, 1], [1], [1, 2], [2], [1, 2], [3], [1, 3]])

    def test_changes_nothing(self):
        asked = [count(0, 97, 97, 97)] * 3
        self.assertEqual(told(*PAIRS, *asked, rule(0, 98))[2:], [[1, 2], [1, 2], [1, 2], [2]])


class EdgesTest(unittest.TestCase):
    def test_from_at_its_edges(self):
        self.assertEqual(last(rule(0, 97), count(0, 97)), [1, 1])
        self.assertEqual(last(rule(31, 97), count(31, 97)), [1, 1])
        self.assertEqual(last(count(31, 97)), [0, 0])
        for thing in (LOWEST, -1, 32, 97, 255, HIGHEST):
            self.assertEqual(last(rule(0, 97), rule(31, 97), count(thing, 97)), [-2], thing)

    def test_the_empty_text_is_never_said(self):
        self.assertEqual(told(count(0), *PAIRS, count(0), count(1)), [[0, 0], [0], [1], [0, 0], [0, 0]])

    def test_texts_of_some_lengths(self):
        for size in range(1, 9):
            self.assertEqual(last(*PAIRS, count(0, *[97] * size)), [1, catalan(size - 1)], size)
        for size in range(49, 61):
            self.assertEqual(last(*PAIRS, count(0, *[97] * size)), [-2], size)

    def test_a_text_too_long_is_refused_whatever_it_holds(self):
        self.assertEqual(told(count(0, *[5] * 49), count(0, *[0] * 60), count(-1, *[97] * 60)), [[-2], [-2], [-2]])

    def test_from_is_refused_whatever_the_text_holds(self):
        self.assertEqual(told(count(32), count(-1), count(32, 5), count(HIGHEST, 97)), [[-2], [-2], [-2], [-2]])

    def test_a_refusal_changes_nothing(self):
        self.assertEqual(told(*PAIRS, count(32, 97), count(0, *[97] * 49), count(0, 97, 97), rule(0, 98)),
                         [[0], [1], [-2], [-2], [1, 1], [2]])

    def test_letters_at_their_edges(self):
        for letter in (32, 33, 254, 255):
            self.assertEqual(last(rule(0, letter), count(0, letter)), [1, 1], letter)

    def test_no_letter_below_32(self):
        for number in (0, 1, 5, 31):
            self.assertEqual(last(rule(0, number if number else 1), rule(1, 97), count(0, number)), [0, 0], number)
            self.assertEqual(last(*PAIRS, count(0, 97, number, 97)), [0, 0], number)
            self.assertEqual(last(*PAIRS, rule(0, 0, number, 0), count(0, 97, number, 97)), [0, 0], number)
            self.assertEqual(last(rule(2, 97, number), count(2, 97, number)), [0, 0], number)

    def test_a_text_that_is_its_own_thing(self):
        self.assertEqual(told(rule(3, 97), count(3, 3), count(3, 97)), [[0], [0, 0], [1, 1]])

    # The interface hands in no texts from 9 to 48, yet the promise speaks of them.
    def test_texts_of_9_to_48(self):
        pairs = taken((0, [0, 0]), (0, [97]))
        for size in (9, 20, 30):
            self.assertEqual(count_ways(pairs, 0, [97] * size), catalan(size - 1), size)
        self.assertLess(catalan(35), MOST_WAYS)
        self.assertEqual(count_ways(pairs, 0, [97] * 36), catalan(35))
        self.assertEqual(count_ways(pairs, 0, [97] * 48), MOST_WAYS)
        self.assertEqual(last(rule(0, 97), rule(0, 97, 0), count(0, *[97] * 48)), [1, 1])


class ManyWaysTest(unittest.TestCase):
    def fermat_rules(self):
        # Thing 8 - n says "a" in 4 ** n ways; things 10 to 15 in so many that their product is 2 ** 64 - 1.
        powers = [rule(8, 97)] + [rule(thing, thing + 1) for thing in range(8) for again in range(4)]
        factors = [rule(10, 97), rule(10, 97), rule(10, 97),
                   rule(11, 7), rule(11, 97), rule(12, 6), rule(12, 97), rule(13, 4), rule(13, 97),
                   rule(14, 0), rule(14, 97), rule(15, 0, 0), rule(15, 97, 97)]
        return powers + factors + [rule(20, 10, 11, 12, 13, 14, 15)]

    def test_powers(self):
        calls = [rule(thing, 97) for thing in (0, 1, 2) for again in range(10)]
        self.assertEqual(last(*calls, rule(3, 0, 1, 2), count(3, 97, 97, 97)), [1, 1000])
        self.assertEqual(last(*calls, rule(3, *[0] * 8), count(3, *[97] * 8)), [1, 10 ** 8])

    def test_factors_one_by_one(self):
        asked = [count(10, 97), count(11, 97), count(12, 97), count(13, 97), count(14, 97), count(15, 97, 97)]
        self.assertEqual(told(*self.fermat_rules(), *asked)[-6:],
                         [[1, 2 ** 2 ** power + 1] for power in range(6)])

    def test_just_the_most(self):
        self.assertEqual(last(*self.fermat_rules(), count(20, *[97] * 7)), [1, 2 ** 64 - 1])

    def test_one_more_than_the_most(self):
        self.assertEqual(last(*self.fermat_rules(), rule(20, *[97] * 7), count(20, *[97] * 7)), [1, 2 ** 64 - 1])

    def test_below_the_most(self):
        calls = self.fermat_rules()
        self.assertEqual(last(*calls, rule(21, 11, 12, 13, 14, 15), count(21, *[97] * 6)), [1, (2 ** 64 - 1) // 3])
        self.assertEqual(last(*calls, rule(21, 97, 11, 12, 13, 14, 15), rule(21, *[97] * 7), count(21, *[97] * 7)),
                         [1, (2 ** 64 - 1) // 3 + 1])

    def test_far_more_than_the_most(self):
        self.assertEqual(last(*self.fermat_rules(), rule(21, *[0] * 8), count(21, *[97] * 8)), [1, MOST_WAYS])

    def test_many_times_none_is_none(self):
        self.assertEqual(last(*self.fermat_rules(), rule(21, 20, 98), count(21, *[97] * 8)), [0, 0])
        self.assertEqual(last(*self.fermat_rules(), rule(21, 20, 30), count(21, *[97] * 8)), [0, 0])
        self.assertEqual(last(*self.fermat_rules(), rule(21, 20, 98), count(21, *[97] * 7, 98)), [1, MOST_WAYS])

    def test_as_many_rules_as_a_line_allows(self):
        calls = [rule(0, 0, 0)] * 29 + [rule(0, 97)] * 30
        self.assertEqual(last(*calls, count(0, *[97] * 5)), [1, catalan(4) * 29 ** 4 * 30 ** 5])
        self.assertEqual(last(*calls, count(0, *[97] * 8)), [1, MOST_WAYS])


class DepthTest(unittest.TestCase):
    CHAIN = [(thing, [thing + 1]) for thing in range(31)]

    def test_all_things_for_each_letter(self):
        chain = [rule(head, *body) for head, body in self.CHAIN]
        self.assertEqual(last(*chain, rule(31, 97), rule(31, 97, 0), count(0, *[97] * 8)), [1, 1])
        self.assertEqual(last(*chain, rule(31, 97), rule(31, 0, 97), count(0, *[97] * 8)), [1, 1])

    def test_things_in_any_order(self):
        falling = [rule(head, *body) for head, body in reversed(self.CHAIN)]
        mirrored = [rule(31 - head, 31 - body[0]) for head, body in self.CHAIN]
        self.assertEqual(last(*falling, rule(31, 97), rule(31, 97, 0), count(0, *[97] * 8)), [1, 1])
        self.assertEqual(last(*mirrored, rule(0, 97), rule(0, 97, 31), count(31, *[97] * 8)), [1, 1])

    # 48 letters with 32 things each nest deeper than Python allows calls to.
    def test_deeper_than_a_thousand(self):
        grammar = taken(*self.CHAIN, (31, [97]), (31, [97, 0]))
        self.assertEqual(count_ways(grammar, 0, [97] * 48), 1)
        self.assertEqual(count_ways(grammar, 0, [97] * 47 + [98]), 0)
        doubled = taken(*self.CHAIN, (0, [1]), (31, [97]), (31, [97, 0]))
        self.assertEqual(count_ways(doubled, 0, [97] * 48), 2 ** 48)
