"""Prints a line in its one form.

The grammar has let the line's tokens stand, so a token and the ones beside it tell what it's there for.
"""

from axisprograms.grammar import COMPARISONS, FUNCTIONS, REDUCTIONS, ROW_LEVELS
from axisprograms.tokens import NAME, NUMBER

BLANK = 32

# The levels beside those of ROW_LEVELS, the loosest first. A primary needs none of its own: none is wanted but where
# a signed may stand too.
VALUE_LEVEL = -1
EITHER_LEVEL = 0
SIGNED_LEVEL = 6

OPENERS = ("(", "[")
CLOSERS = (")", "]")
PREFIXES = ("-", "~")


class Opened:
    """What is not closed yet: the number of its token, and the level of what stands within it so far."""

    def __init__(self, number):
        self.number = number
        self.level = SIGNED_LEVEL


def printed_line(tokens):
    """The bytes of the line's printed form."""
    needless = needless_parentheses(tokens)
    printed = []
    for number, token in enumerate(tokens):
        if number not in needless:
            printed.extend(token.printed)
        if number == 0:
            printed.append(BLANK)
    return printed


def needless_parentheses(tokens):
    """A dict with the number of each token that is not printed."""
    needless = {}
    # The first one stands for the line itself, which is not closed.
    opened = [Opened(0)]
    for number, token in enumerate(tokens):
        if token.form in OPENERS:
            opened.append(Opened(number))
        elif token.form in CLOSERS:
            closed = opened.pop()
            if is_needless(tokens, closed, number):
                needless[closed.number] = True
                needless[number] = True
                loosen(opened[-1], closed.level)
        else:
            loosen(opened[-1], joined_level(tokens, number))
    return needless


def loosen(around, level):
    if level is not None:
        around.level = min(around.level, level)


def joined_level(tokens, number):
    """The level of what a token joins two values to, or None where it joins none.

    The < of a range is taken for a comparison: it stands within parentheses and brackets that are always printed.
    """
    form = tokens[number].form
    if form in COMPARISONS:
        return VALUE_LEVEL
    # A - that's not behind a value is a prefix.
    if form in ROW_LEVELS and ends_value(tokens[number - 1]):
        return ROW_LEVELS[form]
    return None


def ends_value(token):
    return token.form == NUMBER or token.form == NAME or token.form in CLOSERS


def is_needless(tokens, closed, end):
    if not is_group(tokens, closed.number):
        return False
    return closed.level >= max(wanted_behind(tokens, closed.number - 1), wanted_before(tokens, end + 1))


def is_group(tokens, number):
    if tokens[number].form != "(":
        return False
    word = tokens[number - 1].form
    return word not in FUNCTIONS and word not in REDUCTIONS


def wanted_behind(tokens, number):
    """The loosest level that may stand behind a token."""
    level = joined_level(tokens, number)
    if level is not None:
        return level + 1
    return SIGNED_LEVEL if tokens[number].form in PREFIXES else VALUE_LEVEL


def wanted_before(tokens, number):
    """The loosest level that may stand before a token."""
    level = joined_level(tokens, number)
    if level is None:
        return VALUE_LEVEL
    # A row's first operand may be of its own level, a comparison's may not.
    return max(level, EITHER_LEVEL)
