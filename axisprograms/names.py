"""Tells what is wrong with the names of a program's lines."""

from axisprograms.lines import ARRAY, BOUND, END, RANGE, SIZE

MOST_SIZES = 8
MOST_ARRAYS = 16

FINE = 0
TAKEN = 2
UNKNOWN = 3
WRONG_RANK = 4
TOO_MANY = 5


def wrong_name(lines):
    """The number and the place of the first wrong name, or None.

    Lines and mentions are walked in the order of their places, so the first that is found has the least place.
    """
    first_lines = first_of_each_name(lines)
    earlier = {}
    sizes = 0
    for number, line in enumerate(lines):
        if line.name in earlier:
            return (TAKEN, line.place)
        earlier[line.name] = True
        if line.role == SIZE:
            sizes += 1
        if sizes > MOST_SIZES or number + 1 - sizes > MOST_ARRAYS:
            return (TOO_MANY, line.place)
        wrong = wrong_mention(line, first_lines)
        if wrong is not None:
            return wrong
    return None


def first_of_each_name(lines):
    first_lines = {}
    for line in lines:
        first_lines.setdefault(line.name, line)
    return first_lines


def wrong_mention(line, first_lines):
    in_force = []
    for mention in line.mentions:
        if mention.purpose == END:
            in_force = in_force[:len(in_force) - mention.count]
            continue
        fault = fault_of(mention, in_force, first_lines.get(mention.name))
        if fault != FINE:
            return (fault, mention.place)
        if mention.purpose == RANGE:
            in_force.append(mention.name)
    return None


def fault_of(mention, in_force, named):
    """What is wrong with a mention, where named is the first line of its name or None."""
    if mention.purpose == RANGE:
        return FINE if named is None and mention.name not in in_force else TAKEN
    if mention.purpose == ARRAY:
        return array_fault(mention, named)
    if named is not None and named.role == SIZE:
        return FINE
    if mention.purpose == BOUND:
        return UNKNOWN
    return FINE if mention.name in in_force else UNKNOWN


def array_fault(mention, named):
    if named is None or named.role == SIZE:
        return UNKNOWN
    return FINE if mention.count == named.rank else WRONG_RANK
