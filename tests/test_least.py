"""Point 6: least."""

import unittest

from tests.lines import INIT, count, last, least, rule, told

LOWEST = -2147483648
HIGHEST = 2147483647
CHAIN = tuple(rule(thing, thing + 1) for thing in range(31))


class LeastTest(unittest.TestCase):
    def test_one_letter(self):
        self.assertEqual(last(rule(0, 97), least(0)), [1])
        self.assertEqual(last(rule(0, 255), least(0)), [1])
        self.assertEqual(last(rule(0, 32), least(0)), [1])

    def test_letters_and_things(self):
        for size in range(1, 9):
            self.assertEqual(last(rule(0, *[97] * size), least(0)), [size])
        self.assertEqual(last(rule(0, 97, 1, 98, 2), rule(1, 97, 97), rule(2, 97, 97, 97), least(0)), [7])

    def test_shortest_of_several(self):
        self.assertEqual(last(rule(0, 97, 97, 97), rule(0, 97, 97), rule(0, *[97] * 8), least(0)), [2])
        self.assertEqual(last(rule(0, 1, 1), rule(0, 2), rule(1, 97, 97), rule(2, *[97] * 5), least(0)), [4])
        self.assertEqual(last(rule(0, 1, 1), rule(0, 2), rule(1, 97, 97, 97), rule(2, *[97] * 5), least(0)), [5])
        self.assertEqual(last(rule(0, 1), rule(0, 2), rule(0, 97, 97, 97), rule(1, 97, 3), rule(2, 3, 3, 3, 97),
                              rule(3, 97), least(0)), [2])

    def test_a_rule_with_a_shorter_body_may_say_more(self):
        self.assertEqual(last(rule(0, 1), rule(0, 97, 97, 97), rule(1, *[97] * 4), least(0)), [3])

    def test_a_thing_within_itself(self):
        self.assertEqual(last(rule(0, 0, 0), rule(0, 97), least(0)), [1])
        self.assertEqual(last(rule(0, 97, 0), rule(0, 97, 98), least(0)), [2])
        self.assertEqual(last(rule(0, 1, 1), rule(1, 0, 97), rule(1, 97, 97), least(0)), [4])

    def test_the_shortest_is_said_and_no_shorter_one(self):
        rules = (rule(0, 1, 2), rule(1, 97, 1), rule(1, 97, 97), rule(2, 2, 2), rule(2, 1, 1), rule(2, 97, 1))
        self.assertEqual(last(*rules, least(0)), [5])
        self.assertEqual([last(*rules, count(0, *[97] * size))[0] for size in range(7)], [0, 0, 0, 0, 0, 1, 1])

    def test_found_by_later_rules(self):
        self.assertEqual(told(rule(0, *[97] * 8), least(0), rule(0, 1, 1), least(0), rule(1, 2, 97, 97), least(0),
                              rule(2, 97), least(0), rule(2, 98), rule(1, 2, 98), least(0), rule(0, 99), least(0)),
                         [[0], [8], [1], [8], [2], [8], [3], [6], [4], [5], [4], [6], [1]])


class NoneTest(unittest.TestCase):
    def test_a_thing_without_rules(self):
        self.assertEqual(last(least(0)), [0])
        self.assertEqual(last(rule(1, 97), least(0)), [0])
        self.assertEqual(last(rule(0, 1), least(0)), [0])
        self.assertEqual(last(rule(0, 97, 1, 98), least(0)), [0])

    def test_rules_that_never_end(self):
        self.assertEqual(last(rule(0, 0, 0), least(0)), [0])
        self.assertEqual(last(rule(0, 97, 0), rule(0, 0, 97), least(0)), [0])
        self.assertEqual(told(rule(0, 97, 1), rule(1, 97, 2), rule(2, 97, 0), least(0), least(1), least(2))[3:],
                         [[0], [0], [0]])
        self.assertEqual(last(*CHAIN, rule(31, 97, 0), least(0)), [0])

    def test_beside_one_that_ends(self):
        self.assertEqual(told(rule(0, 97, 0), rule(0, 1, 0), rule(1, 97), least(0), least(1), rule(0, 1, 1), least(0)),
                         [[0], [1], [2], [0], [1], [3], [2]])


class LongTest(unittest.TestCase):
    def test_as_many_things_as_there_are(self):
        self.assertEqual(last(*CHAIN, rule(31, 97), least(0)), [1])
        self.assertEqual(last(*reversed(CHAIN), rule(31, 97), least(0)), [1])
        longer = [rule(thing, 97, thing + 1) for thing in range(31)]
        self.assertEqual(last(*longer, rule(31, 97), least(0)), [32])
        self.assertEqual(last(rule(31, 97), *reversed(longer), least(0)), [32])
        mirrored = [rule(31 - thing, 30 - thing, 97) for thing in range(31)]
        self.assertEqual(last(*mirrored, rule(0, 97), least(31)), [32])

    def test_shorter_by_the_longer_path(self):
        longer = [rule(thing, 97, thing + 1) for thing in range(6)]
        direct = [rule(thing, *[97] * 8) for thing in range(6)]
        self.assertEqual(last(*direct, *longer, rule(6, 98), least(0)), [7])
        self.assertEqual(last(*longer, *direct, rule(6, 98), least(0)), [7])
        self.assertEqual(last(*longer, *direct, rule(6, 98, 98), least(0)), [8])
        self.assertEqual(last(*longer, *direct, rule(6, 98, 98, 98), least(0)), [8])

    def doubling(self, things):
        return [rule(thing, thing + 1, thing + 1) for thing in range(things)]

    def test_powers_of_two(self):
        for things in (1, 2, 10, 19):
            self.assertEqual(last(*self.doubling(things), rule(things, 97), least(0)), [2 ** things])

    # Thing 7 - n says 10 ** n letters and no fewer.
    def tens(self, things):
        found = [rule(7, 97)]
        for thing in range(7 - things, 7):
            found += [rule(thing, *[thing + 1] * 5, 10 + thing), rule(10 + thing, *[thing + 1] * 5)]
        return found

    def test_tens(self):
        for things in range(7):
            self.assertEqual(last(*self.tens(things), least(7 - things)), [10 ** things])

    def test_just_the_longest_and_more(self):
        rules = self.tens(6)
        self.assertEqual(last(*rules, least(1)), [1000000])
        self.assertEqual(last(*rules, rule(30, 1, 97), least(30)), [1000000])
        self.assertEqual(last(*rules, rule(30, 1, 1), least(30)), [1000000])

    def test_just_below_the_longest(self):
        # Thing 20 + n says 8 * 10 ** n letters, thing 27 as many nines as there are powers: 999999.
        eights = [rule(20 + power, *[7 - power] * 8) for power in range(6)]
        nines = [rule(26, 20, 21, 22, 23, 24, 25), rule(27, 26, 7, 6, 5, 4, 3, 2)]
        rules = self.tens(5) + eights + nines
        self.assertEqual(last(*rules, least(27)), [999999])
        self.assertEqual(last(*rules, rule(28, 27, 97), least(28)), [1000000])
        self.assertEqual(last(*rules, rule(28, 27, 97, 97), least(28)), [1000000])

    def test_very_much_more(self):
        self.assertEqual(last(*self.doubling(20), rule(20, 97), least(0)), [1000000])
        self.assertEqual(last(*self.doubling(31), rule(31, 97), least(0)), [1000000])
        eightfold = [rule(thing, *[thing + 1] * 8) for thing in range(31)]
        self.assertEqual(told(*eightfold, rule(31, *[97] * 8), least(0), least(24), least(25), least(26))[-4:],
                         [[1000000], [1000000], [1000000], [262144]])

    def test_a_shorter_one_beside_very_long_ones(self):
        eightfold = [rule(thing, *[thing + 1] * 8) for thing in range(31)]
        self.assertEqual(last(*eightfold, rule(31, 97), rule(0, 30, 30), least(0)), [16])


class EdgesTest(unittest.TestCase):
    def test_from_at_its_edges(self):
        self.assertEqual(last(rule(0, 97), least(0)), [1])
        self.assertEqual(last(rule(31, 97, 97), least(31)), [2])
        self.assertEqual(last(least(31)), [0])
        for thing in (LOWEST, -1, 32, 97, HIGHEST):
            self.assertEqual(last(rule(0, 97), rule(31, 97), least(thing)), [-2], thing)

    def test_changes_nothing(self):
        asked = (least(32), least(-1), least(0), least(1), least(0))
        self.assertEqual(told(rule(0, 97, 97), *asked, rule(0, 97), least(0)),
                         [[0], [-2], [-2], [2], [0], [2], [1], [1]])

    def test_no_rules_behind_init(self):
        self.assertEqual(told(rule(0, 97), least(0), INIT, least(0), rule(1, 97, 97), least(0), least(1)),
                         [[0], [1], [0], [0], [0], [0], [2]])

    def test_what_was_refused_makes_no_text(self):
        self.assertEqual(told(rule(0, 97, 97), rule(0, 0), rule(32, 97), rule(0), rule(0, *[97] * 9), least(0)),
                         [[0], [-1], [-2], [-2], [-2], [2]])
