"""The lengths of the shortest texts that the things of a grammar say."""

from saidways.rules import is_thing

LONGEST_LENGTH = 1000000


# For each thing that says a text at all, by the thing, the length of its shortest one.
# In a way of the shortest text no thing stands within itself, so there are hardly more rounds than things.
def shortest_lengths(rules):
    lengths = {}
    changed = True
    while changed:
        changed = False
        for head, body in rules.taken:
            if can_end(lengths, body) and shorten(lengths, head, length_of_body(lengths, body)):
                changed = True
    return lengths


def can_end(lengths, body):
    return all([sign in lengths for sign in body if is_thing(sign)])


# What is longer than the longest stays so in every sum, so nothing is lost by stopping there.
def length_of_body(lengths, body):
    return min(sum([lengths[sign] if is_thing(sign) else 1 for sign in body]), LONGEST_LENGTH)


def shorten(lengths, thing, length):
    if thing in lengths and lengths[thing] <= length:
        return False
    lengths[thing] = length
    return True
