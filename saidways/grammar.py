"""A line of calls about one grammar, and what they answer."""

from saidways.calls import COUNT, INIT, NEXT, RULE, WAY, read_calls
from saidways.following import letters_behind
from saidways.lengths import shortest_lengths
from saidways.rules import REFUSED, Rules, is_thing
from saidways.telling import tell_way
from saidways.ways import count_ways

LONGEST_TEXT = 48


def answers(calls):
    rules = Rules()
    told = []
    for call in read_calls(calls):
        answer = answer_call(rules, call)
        told.append(len(answer))
        told.extend(answer)
    return told


def answer_call(rules, call):
    if call.kind == INIT:
        return answer_init(rules)
    if call.kind == RULE:
        return [rules.take(call.numbers[0], call.rows[0])]
    return answer_question(rules, call)


def answer_init(rules):
    rules.forget()
    return [0]


# The calls that ask of a thing, from, and change nothing; all but least ask of a text too.
def answer_question(rules, call):
    thing = call.numbers[0]
    if not is_thing(thing) or any([len(text) > LONGEST_TEXT for text in call.rows]):
        return [REFUSED]
    if call.kind == COUNT:
        return answer_count(rules, thing, call.rows[0])
    if call.kind == WAY:
        return tell_way(rules, thing, call.numbers[1], call.rows[0])
    if call.kind == NEXT:
        return answer_next(rules, thing, call.rows[0])
    return answer_least(rules, thing)


def answer_count(rules, thing, text):
    ways = count_ways(rules, thing, text)
    return [1 if ways > 0 else 0, ways]


def answer_next(rules, thing, text):
    letters = letters_behind(rules, thing, text)
    return [len(letters)] + letters


def answer_least(rules, thing):
    return [shortest_lengths(rules).get(thing, 0)]
