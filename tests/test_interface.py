"""The interface: how calls are written, how answers are, and that nothing is changed or kept."""

import unittest

from saidways import grammar
from saidways.calls import read_calls
from saidways.grammar import answers
from tests.lines import INIT, count, following, join, least, rule, split, way

LINE = (rule(0, 0, 0), rule(0, 97), rule(0, 0), rule(40, 97), rule(0), count(0, 97, 97, 97), count(0), count(1, 97),
        count(-5, 97), count(0, *[97] * 60), INIT, count(0, 97), rule(0, 98), count(0, 98))

ASKING = (rule(0, 0, 0), rule(0, 97), way(0, 1, 97, 97, 97), way(0, 2, 97, 97, 97), following(0, 97), following(0, 98),
          least(0), way(32, 0, 97), following(-1), least(32), following(0, *[97] * 60), INIT, way(0, 0, 97),
          following(0), least(0), rule(3, 98, 99), way(3, 0, 98, 99), following(3, 98), least(3), count(3, 98, 99))


class FormTest(unittest.TestCase):
    def test_number_by_number(self):
        self.assertEqual(grammar.answers([0, 1, 5, 2, 97, 98, 2, 5, 2, 97, 98, 2, 5, 0, 2, 32, 1, 97, 1, 5, 1, 5]),
                         [1, 0, 1, 0, 2, 1, 1, 2, 0, 0, 1, -2, 1, -1])

    def test_a_whole_line(self):
        self.assertEqual(answers(join(LINE)),
                         [1, 0, 1, 1, 1, -1, 1, -2, 1, -2, 2, 1, 2, 2, 0, 0, 2, 0, 0, 1, -2, 1, -2, 1, 0,
                          2, 0, 0, 1, 0, 2, 1, 1])

    def test_way_next_and_least_number_by_number(self):
        self.assertEqual(answers([1, 5, 2, 97, 98, 3, 5, 0, 2, 97, 98, 3, 5, 1, 2, 97, 98, 4, 5, 0, 4, 5, 1, 97,
                                  4, 5, 1, 98, 5, 5, 5, 6, 3, 32, 0, 1, 97, 4, -1, 0, 5, 32]),
                         [1, 0, 2, 1, 0, 1, -1, 2, 1, 97, 2, 1, 98, 1, 0, 1, 2, 1, 0, 1, -2, 1, -2, 1, -2])

    def test_a_line_of_all_six(self):
        self.assertEqual(split(answers(join(ASKING))),
                         [[0], [1], [5, 0, 0, 1, 1, 1], [-1], [1, 97], [0], [1], [-2], [-2], [-2], [-2], [0], [-1],
                          [0], [0], [0], [1, 0], [1, 99], [2], [1, 1]])

    def test_a_way_too_long_stands_alone(self):
        tall = [rule(thing, thing + 1) for thing in range(31)] + [rule(31, 0, 0), rule(31, 97)]
        self.assertEqual(answers(join([*tall, way(0, 0, *[97] * 8), least(0)]))[-4:], [1, -3, 1, 1])

    def test_signs_that_look_like_calls(self):
        self.assertEqual(answers([1, 2, 4, 32, 33, 34, 35, 2, 2, 4, 32, 33, 34, 35, 1, 0, 3, 0, 1, 2, 2, 0, 3, 0, 1, 2]),
                         [1, 0, 2, 1, 1, 1, 1, 2, 0, 0])

    def test_kinds(self):
        given = answers(join(LINE + ASKING))
        self.assertIs(type(given), list)
        self.assertEqual({type(number) for number in given}, {int})

    def test_one_call(self):
        self.assertEqual(answers([0]), [1, 0])

    def test_sixty_calls(self):
        calls = [rule(number % 32, 97, 98) for number in range(30)] + [count(number, 97, 98) for number in range(30)]
        self.assertEqual(answers(join(calls)),
                         join([1, number] for number in range(30)) + [2, 1, 1] * 30)

    def test_sixty_long_calls(self):
        calls = [rule(number % 4, *[(number + 1) % 4, 97] * 4) for number in range(30)] + [count(0, *[97] * 60)] * 30
        self.assertEqual(answers(join(calls)), join([1, number] for number in range(30)) + [1, -2] * 30)

    def test_sixty_calls_of_each_question(self):
        rules = [rule(0, 0, 0), rule(0, 97)]
        for question, answer in ((way(0, 0, 97, 97), [3, 0, 1, 1]), (following(0, 97), [1, 97]), (least(0), [1])):
            self.assertEqual(split(answers(join(rules + [question] * 58))), [[0], [1]] + [answer] * 58)

    def test_all_six_forms_are_read(self):
        calls = read_calls([3, 1, 18446744073709551615, 2, 97, 98, 5, -7, 4, 2, 0, 0, 1, 3, 1, 97, 2, 4, 1, 5])
        self.assertEqual([(call.kind, call.numbers, call.rows) for call in calls],
                         [(3, [1, 18446744073709551615], [[97, 98]]), (5, [-7], []), (4, [2], [[]]), (0, [], []),
                          (1, [3], [[97]]), (2, [4], [[5]])])


class KeptTest(unittest.TestCase):
    def test_what_is_handed_in_is_as_it_was(self):
        for calls in (LINE, ASKING):
            line = join(calls)
            answers(line)
            self.assertEqual(line, join(calls))

    def test_the_same_again(self):
        for calls in (LINE, ASKING):
            line = join(calls)
            first = answers(line)
            self.assertEqual(answers(line), first)
            self.assertEqual(answers(list(line)), first)

    def test_nothing_is_kept_from_another_line(self):
        answers(join([rule(0, 97), rule(0, 1), rule(1, 97)]))
        self.assertEqual(answers(join([count(0, 97), rule(1, 0)])), [2, 0, 0, 1, 0])
        answers(join([rule(0, 97), way(0, 0, 97), following(0), least(0)]))
        self.assertEqual(answers(join([way(0, 0, 97), following(0), least(0)])), [1, -1, 1, 0, 1, 0])

    def test_what_is_given_back_is_new(self):
        for calls in (LINE, ASKING):
            line = join(calls)
            first = answers(line)
            copied = list(first)
            first.clear()
            self.assertEqual(answers(line), copied)
