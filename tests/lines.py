"""Lines of calls as the interface writes them, and their answers taken apart again."""

from saidways.grammar import answers

INIT = [0]
MOST_WAYS = 18446744073709551615


def rule(head, *body):
    return [1, head, len(body), *body]


def count(thing, *text):
    return [2, thing, len(text), *text]


def letters(word):
    return [ord(letter) for letter in word]


def join(calls):
    return [number for call in calls for number in call]


def split(numbers):
    found = []
    place = 0
    while place < len(numbers):
        size = numbers[place]
        found.append(numbers[place + 1:place + 1 + size])
        place += 1 + size
    return found


def told(*calls):
    return split(answers(join(calls)))


def last(*calls):
    return told(*calls)[-1]
