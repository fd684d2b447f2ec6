"""Point 1: init."""

import unittest

from tests.lines import INIT, count, following, last, least, rule, told, way


class InitTest(unittest.TestCase):
    def test_answers_zero(self):
        self.assertEqual(told(INIT), [[0]])

    def test_answers_zero_each_time(self):
        self.assertEqual(told(INIT, INIT, rule(0, 97), INIT), [[0], [0], [0], [0]])

    def test_no_rules_behind_it(self):
        self.assertEqual(last(rule(0, 97), count(0, 97)), [1, 1])
        self.assertEqual(last(rule(0, 97), INIT, count(0, 97)), [0, 0])

    def test_numbers_begin_again_behind_it(self):
        self.assertEqual(told(rule(0, 97), rule(1, 98), INIT, rule(1, 98), rule(0, 97)),
                         [[0], [1], [0], [0], [1]])

    def test_no_ring_with_rules_ahead_of_it(self):
        self.assertEqual(told(rule(0, 1), INIT, rule(1, 0), rule(0, 1)), [[0], [0], [0], [-1]])

    def test_only_new_rules_say_behind_it(self):
        self.assertEqual(told(rule(0, 97), rule(0, 1), rule(1, 98), INIT, rule(0, 1), count(0, 97), count(0, 98),
                              rule(1, 99), count(0, 99))[4:],
                         [[0], [0, 0], [0, 0], [1], [1, 1]])

    def test_a_grammar_is_without_rules_at_first(self):
        self.assertEqual(told(count(0, 97)), [[0, 0]])
        self.assertEqual(told(rule(5, 97)), [[0]])

    def test_no_rules_for_any_question_behind_it(self):
        asked = (count(0, 97), way(0, 0, 97), following(0), least(0))
        self.assertEqual(told(rule(0, 97), *asked, INIT, *asked, rule(0, 97, 97), *asked),
                         [[0], [1, 1], [1, 0], [1, 97], [1], [0], [0, 0], [-1], [0], [0],
                          [0], [0, 0], [-1], [1, 97], [2]])
