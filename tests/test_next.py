"""Point 5: next."""

import unittest
from random import Random

from saidways.following import letters_behind
from saidways.rules import Rules
from tests.lines import INIT, count, following, last, letters, rule, told
from tests.reference import Reference

LOWEST = -2147483648
HIGHEST = 2147483647

BRACKETS = (rule(0, 40, 0, 41), rule(0, 97))
SUMS = (rule(0, 0, 43, 1), rule(0, 1), rule(1, 40, 0, 41), rule(1, 49))
CHAIN = tuple(rule(thing, thing + 1) for thing in range(31))


def behind(rules, thing, text=""):
    """The letters behind the text, as one text, when they were found to be as many as is told."""
    size, *found = last(*rules, following(thing, *letters(text)))
    assert size == len(found)
    return "".join(chr(letter) for letter in found)


class NextTest(unittest.TestCase):
    def test_behind_the_empty_text(self):
        self.assertEqual(last(*BRACKETS, following(0)), [2, 40, 97])
        self.assertEqual(behind(SUMS, 0), "(1")
        self.assertEqual(behind(SUMS, 1), "(1")

    def test_behind_a_part_of_a_text(self):
        self.assertEqual(behind(BRACKETS, 0, "(("), "(a")
        self.assertEqual(behind(BRACKETS, 0, "((a"), ")")
        self.assertEqual(behind(BRACKETS, 0, "((a)"), ")")
        self.assertEqual(behind(SUMS, 0, "(1+"), "(1")
        self.assertEqual(behind(SUMS, 0, "(1+1"), ")+")

    def test_behind_one_that_is_said_already(self):
        self.assertEqual(behind(SUMS, 0, "1"), "+")
        self.assertEqual(behind(SUMS, 0, "1+(1)"), "+")
        self.assertEqual(behind((rule(0, 97), rule(0, 97, 98), rule(0, 97, 99, 97)), 0, "a"), "bc")

    def test_nothing_goes_on(self):
        self.assertEqual(last(*BRACKETS, following(0, 97)), [0])
        self.assertEqual(last(*BRACKETS, following(0, *letters("(a)"))), [0])
        self.assertEqual(last(*BRACKETS, following(0, 98)), [0])
        self.assertEqual(last(*BRACKETS, following(0, *letters("(a))"))), [0])
        self.assertEqual(last(*BRACKETS, following(0, *letters(")"))), [0])
        self.assertEqual(last(*BRACKETS, following(1)), [0])
        self.assertEqual(last(following(0)), [0])

    def test_rising_and_each_once(self):
        rules = (rule(0, 122), rule(0, 98), rule(0, 1), rule(1, 98), rule(1, 109, 97), rule(0, 97, 0), rule(0, 98))
        self.assertEqual(last(*rules, following(0)), [4, 97, 98, 109, 122])
        falling = [rule(0, letter) for letter in range(80, 40, -1)]
        self.assertEqual(last(*falling, following(0)), [40, *range(41, 81)])

    def test_from_several_cuts(self):
        rules = (rule(0, 1, 98), rule(0, 1, 1, 99), rule(1, 97), rule(1, 97, 97))
        self.assertEqual(behind(rules, 0, "a"), "ab")
        self.assertEqual(behind(rules, 0, "aa"), "abc")
        self.assertEqual(behind(rules, 0, "aaa"), "ac")
        self.assertEqual(behind(rules, 0, "aaaa"), "c")

    def test_only_what_stands_at_the_end(self):
        rules = (rule(0, 97, 98), rule(0, 99), rule(1, 100))
        self.assertEqual(behind(rules, 0, "a"), "b")
        self.assertEqual(behind(rules, 0, "c"), "")

    def test_what_stands_where_belongs_to_its_beginning(self):
        rules = (rule(0, 97, 1, 100), rule(0, 98, 1, 101), rule(1, 99), rule(1, 99, 99))
        self.assertEqual(behind(rules, 0, "ac"), "cd")
        self.assertEqual(behind(rules, 0, "acc"), "d")
        self.assertEqual(behind(rules, 0, "bcc"), "e")


class DeadTest(unittest.TestCase):
    def test_a_thing_without_rules(self):
        self.assertEqual(last(rule(0, 97, 1), following(0)), [0])
        self.assertEqual(last(rule(0, 1, 97), following(0)), [0])
        self.assertEqual(behind((rule(0, 97, 1), rule(0, 98)), 0), "b")
        self.assertEqual(behind((rule(0, 97, 98, 1, 99), rule(0, 97, 100)), 0, "a"), "d")

    def test_a_thing_that_never_ends(self):
        self.assertEqual(last(rule(0, 97, 0), following(0)), [0])
        self.assertEqual(last(rule(0, 97, 0), following(0, 97)), [0])
        never = (rule(1, 97, 2), rule(2, 98, 1), rule(0, 98), rule(0, 97, 1), rule(0, 1, 97), rule(0, 99, 98, 2))
        self.assertEqual(behind(never, 0), "b")
        self.assertEqual(behind(never, 0, "a"), "")
        self.assertEqual(behind(never, 1), "")

    def test_in_front_of_it_and_behind_it(self):
        rules = (rule(0, 97, 3, 98), rule(0, 99, 97), rule(0, 99, 98, 3), rule(0, 2, 3), rule(2, 100), rule(0, 2, 101),
                 rule(0, 3, 102))
        self.assertEqual(behind(rules, 0), "cd")
        self.assertEqual(behind(rules, 0, "c"), "a")
        self.assertEqual(behind(rules, 0, "d"), "e")
        self.assertEqual(behind(rules, 0, "a"), "")
        self.assertEqual(behind(rules, 0, "cb"), "")

    def test_one_of_several_rules_ends(self):
        self.assertEqual(behind((rule(0, 97, 1), rule(1, 98, 1), rule(1, 2), rule(1, 99)), 0, "a"), "bc")

    def test_ends_by_a_later_rule(self):
        self.assertEqual(told(rule(0, 97, 1), following(0), rule(1, 98, 2), following(0), rule(2, 99), following(0),
                              following(0, 97), following(0, 97, 98)),
                         [[0], [0], [1], [0], [2], [1, 97], [1, 98], [1, 99]])


class ItselfTest(unittest.TestCase):
    def test_as_the_first_sign(self):
        self.assertEqual(behind((rule(0, 0, 98), rule(0, 97)), 0), "a")
        self.assertEqual(behind((rule(0, 0, 98), rule(0, 97)), 0, "a"), "b")
        self.assertEqual(behind((rule(0, 0, 98), rule(0, 97)), 0, "abb"), "b")
        self.assertEqual(behind((rule(0, 1, 98), rule(1, 0, 99), rule(1, 97)), 0, "ab"), "c")

    def test_as_the_last_sign(self):
        self.assertEqual(behind((rule(0, 98, 0), rule(0, 97)), 0), "ab")
        self.assertEqual(behind((rule(0, 98, 0), rule(0, 97)), 0, "bbb"), "ab")
        self.assertEqual(behind((rule(0, 98, 0), rule(0, 97)), 0, "bba"), "")

    def test_in_the_middle(self):
        rules = (rule(0, 97, 0, 98), rule(0, 99))
        self.assertEqual(behind(rules, 0), "ac")
        self.assertEqual(behind(rules, 0, "aaac"), "b")
        self.assertEqual(behind(rules, 0, "aaacbb"), "b")
        self.assertEqual(behind(rules, 0, "aaacbbb"), "")

    def test_twice(self):
        self.assertEqual(behind((rule(0, 0, 0), rule(0, 97), rule(0, 98, 97)), 0, "aba"), "ab")
        self.assertEqual(behind((rule(0, 0, 0), rule(0, 97), rule(0, 98, 97)), 0, "abab"), "a")

    def test_alone_by_others(self):
        self.assertEqual(behind((*CHAIN, rule(31, 97), rule(31, 0, 98)), 0, "abbbbbbb"), "b")
        self.assertEqual(behind((*CHAIN, rule(31, 97), rule(31, 98, 0)), 0, "bbbbbbbb"), "ab")


class EdgesTest(unittest.TestCase):
    def test_letters_at_their_edges(self):
        self.assertEqual(last(rule(0, 255), rule(0, 32), following(0)), [2, 32, 255])
        self.assertEqual(last(rule(0, 32, 255), following(0, 32)), [1, 255])
        self.assertEqual(last(rule(0, 255, 32), following(0, 255)), [1, 32])

    def test_no_letter_below_32(self):
        for number in (0, 1, 31):
            rules = (*SUMS, rule(0, 49, number, 50), rule(31, 51))
            self.assertEqual(last(*rules, following(0, number)), [0], number)
            self.assertEqual(last(*rules, following(0, 49, number)), [0], number)
            self.assertEqual(last(*rules, following(0, number, 49)), [0], number)
            self.assertEqual(last(*rules, following(0, 49, number, 43)), [0], number)

    def test_from_at_its_edges(self):
        rules = (rule(0, 97), rule(31, 98))
        self.assertEqual(last(*rules, following(0)), [1, 97])
        self.assertEqual(last(*rules, following(31)), [1, 98])
        for thing in (LOWEST, -1, 32, 97, HIGHEST):
            for text in ([], [97], [5], [97] * 60):
                self.assertEqual(last(*rules, following(thing, *text)), [-2], thing)

    def test_texts_of_some_lengths(self):
        runs = (rule(0, 97), rule(0, 97, 0))
        for size in range(9):
            self.assertEqual(last(*runs, following(0, *[97] * size)), [1, 97], size)
        for size in (49, 50, 60):
            self.assertEqual(last(*runs, following(0, *[97] * size)), [-2], size)
            self.assertEqual(last(*runs, following(1, *[5] * size)), [-2], size)

    def test_a_text_that_needs_far_more_than_is_asked(self):
        doubling = [rule(thing, thing + 1, thing + 1) for thing in range(31)] + [rule(31, 97)]
        self.assertEqual(last(*doubling, following(0, *[97] * 8)), [1, 97])
        self.assertEqual(last(*doubling, rule(29, 98), following(0, *[97] * 4)), [2, 97, 98])
        self.assertEqual(last(*doubling, rule(29, 98), following(0, *[97] * 5)), [1, 97])

    def test_changes_nothing(self):
        asked = (following(32), following(0, *[97] * 49), following(0, 97), following(0), following(0, 5))
        self.assertEqual(told(*BRACKETS, *asked, *asked, rule(0, 98), following(0), count(0, 98)),
                         [[0], [1]] + [[-2], [-2], [0], [2, 40, 97], [0]] * 2 + [[2], [3, 40, 97, 98], [1, 1]])

    def test_rules_so_far_alone(self):
        self.assertEqual(told(following(0), rule(0, 97), following(0), rule(0, 1, 98), following(0), rule(1, 99),
                              following(0), rule(0, 0), following(0, 99)),
                         [[0], [0], [1, 97], [1], [1, 97], [2], [2, 97, 99], [-1], [1, 98]])

    def test_no_rules_behind_init(self):
        self.assertEqual(told(*BRACKETS, following(0), INIT, following(0), following(0, 40), rule(0, 40, 98),
                              following(0), following(0, 40))[2:],
                         [[2, 40, 97], [0], [0], [0], [0], [1, 40], [1, 98]])

    # The interface hands in no texts from 9 to 48, yet the promise speaks of them.
    def test_texts_of_9_to_48(self):
        rules = Rules()
        for call in (*CHAIN, rule(31, 97), rule(31, 98, 0, 99)):
            rules.take(call[1], call[3:])
        self.assertEqual(letters_behind(rules, 0, [98] * 48), [97, 98])
        self.assertEqual(letters_behind(rules, 0, [98] * 24 + [97] + [99] * 23), [99])
        self.assertEqual(letters_behind(rules, 0, [98] * 23 + [97] + [99] * 23), [])


class ListedTest(unittest.TestCase):
    """Held against the texts themselves, all that are not too long, for grammars that say only some."""

    def texts_of(self, rules, longest):
        found = {thing: set() for thing in range(32)}
        while True:
            further = {(head, text) for head, body in rules for text in self.texts_of_body(found, body, longest)
                       if text not in found[head]}
            if not further:
                return found
            for head, text in further:
                found[head].add(text)

    def texts_of_body(self, found, body, longest):
        texts = {()}
        for sign in body:
            parts = found[sign] if sign < 32 else {(sign,)}
            texts = {text + part for text in texts for part in parts if len(text + part) <= longest}
        return texts

    def any_rules(self, dice):
        """Rules without a thing within itself, so that every text is short; thing 4 is no head."""
        rules = []
        for place in range(dice.randrange(4, 13)):
            head = dice.randrange(4)
            body = [dice.randrange(head + 1, 5) if dice.random() < 0.4 else dice.randrange(97, 100)
                    for sign in range(dice.choice((1, 2, 2, 3)))]
            rules.append((head, body))
        return rules

    def test_letters_of_all_texts(self):
        several = 0
        for seed in range(300):
            rules = self.any_rules(Random(seed))
            said = self.texts_of(rules, 3 ** 4)[0]
            if len(said) > 2000:
                continue
            starts = sorted({text[:size] for text in said for size in range(min(len(text), 8) + 1)})[:40]
            calls = [rule(head, *body) for head, body in rules]
            found = told(*calls, *[following(0, *start) for start in starts])[len(calls):]
            for start, answer in zip(starts, found):
                behind_it = sorted({text[len(start)] for text in said
                                    if text[:len(start)] == start and len(text) > len(start)})
                self.assertEqual(answer, [len(behind_it), *behind_it], (seed, rules, start))
                several += len(behind_it) > 1
        self.assertGreater(several, 200)

    def test_every_short_text(self):
        for rules in (BRACKETS, SUMS, (rule(0, 0, 0), rule(0, 97, 98), rule(0, 98))):
            reference = Reference()
            for call in rules:
                reference.rule(call[1], call[3:])
            texts = [()]
            while len(texts) < 400:
                texts = texts + [(*text, letter) for text in texts[-200:] for letter in (40, 41, 43, 49, 97, 98)
                                 if (*text, letter) not in texts][:200]
            for text in texts:
                self.assertEqual(last(*rules, following(0, *text)), reference.next(0, list(text)), text)
