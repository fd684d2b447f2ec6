"""A line of calls about one grammar, and what they answer."""

from saidways.calls import COUNT, INIT, RULE, read_calls
from saidways.rules import REFUSED, Rules, is_thing
from saidways.ways import count_ways

LONGEST_TEXT = 48


# A call that the document tells but that is not written yet: no number would be a true answer to it.
class NotWritten(Exception):
    pass


def answers(calls):
    rules = Rules()
    told = []
    for call in read_calls(calls):
        answer = answer_call(rules, call)
        told.append(len(answer))
        told.extend(answer)
    return told


def answer_call(rules, call):
    kind = call.kind
    if kind == INIT:
        return answer_init(rules)
    if kind == RULE:
        return [rules.take(call.numbers[0], call.rows[0])]
    if kind == COUNT:
        return answer_count(rules, call.numbers[0], call.rows[0])
    raise NotWritten(f"call {kind} is not written yet")


def answer_init(rules):
    rules.forget()
    return [0]


def answer_count(rules, thing, text):
    if not is_thing(thing) or len(text) > LONGEST_TEXT:
        return [REFUSED]
    ways = count_ways(rules, thing, text)
    return [1 if ways > 0 else 0, ways]
