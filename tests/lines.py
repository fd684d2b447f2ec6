"""Lines of calls as the interface writes them, and their answers taken apart again."""

from saidways.grammar import answers

INIT = [0]
MOST_WAYS = 18446744073709551615


def rule(head, *body):
    return [1, head, len(body), *body]


def count(thing, *text):
    return [2, thing, len(text), *text]


def way(thing, k, *text):
    return [3, thing, k, len(text), *text]


def following(thing, *text):
    return [4, thing, len(text), *text]


def least(thing):
    return [5, thing]


def letters(word):
    return [ord(letter) for letter in word]


def join(calls):
    return [number for call in calls for number in call]


def split(numbers):
    found = []
    place = 0
    while place < len(numbers):
        size = numbers[place]
        found.append(numbers[place + 1:place + 1 + size])
        place += 1 + size
    return found


def told(*calls):
    return split(answers(join(calls)))


def last(*calls):
    return told(*calls)[-1]


def asked_in_turn(rules, asked):
    """The answers to as many questions as one likes, in lines of 60 calls at most that begin with the same rules."""
    room = 60 - len(rules)
    found = []
    for first in range(0, len(asked), room):
        found.extend(told(*rules, *asked[first:first + room])[len(rules):])
    return found
