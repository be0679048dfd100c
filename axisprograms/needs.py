"""Tells which array needs which."""

from axisprograms.lines import ARRAY
from axisprograms.names import first_of_each_name


def reaches(lines, needing, needed):
    """Whether the value of the one line names the other's array, or one whose value does so, in whatever many steps."""
    by_name = first_of_each_name(lines)
    met = {}
    waiting = [lines[needing]]
    while waiting:
        line = waiting.pop()
        for mention in line.mentions:
            if mention.purpose == ARRAY and mention.name not in met:
                met[mention.name] = True
                waiting.append(by_name[mention.name])
    goal = lines[needed]
    # What is needed may be the line itself, so only what a value has named is met.
    return goal.name in met
