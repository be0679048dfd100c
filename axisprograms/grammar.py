"""Reads tokens as lines, one token after another, and tells the first that can't stand.

Each state of a Reader has a function below that looks at one token: it answers the next state, or None where the
token can't stand. A token is let stand only if some program goes on from it, so the first one that is refused is the
fault. What is nested lies in the Reader's frames, not in calls within calls.
"""

from axisprograms.lines import ARRAY, BOUND, END, IN, LINE_WORDS, RANGE, SIZE, VALUE, Line, Mention
from axisprograms.tokens import KIND, KINDS, NAME, NUMBER

MOST_AXES = 4
MOST_OPERANDS = 16
MOST_NESTED = 20

COMPARISONS = ("<", "<=", "==")
# The rows of operators from the loosest to the tightest.
ROW_LEVELS = {"|": 0, "^": 1, "&": 2, "<<": 3, ">>": 3, "+": 4, "-": 4, "*": 5, "/": 5, "percent": 5}
LEVELS = 6
# The level and the operands of what is no row.
NO_ROW = (-1, 1)

FUNCTIONS = {"abs": 1, "ones": 1, "lead": 1, "trail": 1, "min": 2, "max": 2, "quo": 2, "rem": 2, "high": 2,
             "rotl": 2, "if": 3}
REDUCTIONS = ("sum", "product", "least", "greatest")


class Frame:
    """What holds values and is not closed yet: a line's equation, a bracket or a parenthesis."""

    def __init__(self, closer, fewest, most):
        self.closer = closer
        self.fewest = fewest
        self.most = most
        self.begun = 0
        self.grouping = False
        self.array = None
        self.ranges = 0
        self.compared = False
        self.rows = []
        self.operand = NO_ROW
        self.prefixes = 0


class Reader:
    """What is known behind the tokens that stood so far."""

    def __init__(self):
        self.state = "line"
        self.done = []
        self.current = None
        self.frames = []
        self.nested = 0
        self.axes = 0
        self.function = ""


def read_lines(tokens, length):
    """The fault's place, or None, and the lines of a text of that length."""
    reader = Reader()
    for token in tokens:
        if not stands(reader, token):
            return (token.place, [])
    if reader.state != "line":
        return (length, [])
    return (None, reader.done)


def stands(reader, token):
    """Whether the token can stand; if so the reader is behind it now."""
    step = STEPS[reader.state]
    state = step(reader, token)
    if state is None:
        return False
    reader.state = state
    reader.current.tokens.append(token)
    return True


def at_line(reader, token):
    if token.form not in LINE_WORDS:
        return None
    reader.current = Line(LINE_WORDS.index(token.form))
    return "line name"


def at_line_name(reader, token):
    if token.form != NAME:
        return None
    line = reader.current
    line.name = token.word
    line.place = token.place
    return "end" if line.role == SIZE else "axes"


def at_end(reader, token):
    if token.form != ";":
        return None
    return end_line(reader)


def at_axes(reader, token):
    if token.form != "[":
        return None
    reader.axes = 0
    return "first axis"


def at_first_axis(reader, token):
    if token.form == "]":
        return "colon"
    return at_axis(reader, token)


def at_axis(reader, token):
    if reader.current.role == IN:
        return at_bound(reader, token)
    if token.form != NAME:
        return None
    mention(reader, RANGE, token)
    return "less"


def at_less(reader, token):
    return "bound" if token.form == "<" else None


def at_bound(reader, token):
    if token.form == NAME:
        mention(reader, BOUND, token)
    elif token.form != NUMBER:
        return None
    reader.axes += 1
    return "behind axis"


def at_behind_axis(reader, token):
    if token.form == "," and reader.axes < MOST_AXES:
        return "axis"
    # Before a line's equation no frame is there: so with one the row is a reduction's.
    if reader.frames:
        return end_ranges(reader.frames[-1], reader.axes) if token.form == ":" else None
    return end_axes(reader.current, reader.axes) if token.form == "]" else None


def end_ranges(frame, ranges):
    frame.ranges = ranges
    return "value"


def end_axes(line, rank):
    line.rank = rank
    return "colon"


def at_colon(reader, token):
    return "kind" if token.form == ":" else None


def at_kind(reader, token):
    if token.form != KIND:
        return None
    line = reader.current
    line.kind = KINDS.index(token.word)
    return "end" if line.role == IN else "equals"


def at_equals(reader, token):
    if token.form != "=":
        return None
    equation = Frame(";", 1, 1)
    begin_value(equation)
    reader.frames.append(equation)
    return "value"


def at_first_value(reader, token):
    if token.form == "]":
        bracket = reader.frames[-1]
        bracket.begun = 0
        return close(reader)
    return at_value(reader, token)


def at_value(reader, token):
    if token.form == NUMBER:
        return end_operand(reader, NO_ROW)
    if token.form == NAME:
        mention(reader, VALUE, token)
        return "behind name"
    if reader.nested == MOST_NESTED:
        return None
    if token.form == "-" or token.form == "~":
        return prefix(reader)
    if token.form == "(":
        return group(reader)
    if token.form in FUNCTIONS or token.form in REDUCTIONS:
        reader.function = token.form
        return "parenthesis"
    return None


def prefix(reader):
    frame = reader.frames[-1]
    frame.prefixes += 1
    reader.nested += 1
    return "value"


def group(reader):
    frame = Frame(")", 1, 1)
    frame.grouping = True
    nest(reader, frame)
    return "value"


def at_parenthesis(reader, token):
    if token.form != "(":
        return None
    if reader.function in REDUCTIONS:
        nest(reader, Frame(")", 1, 1))
        reader.axes = 0
        return "axis"
    wanted = FUNCTIONS[reader.function]
    nest(reader, Frame(")", wanted, wanted))
    return "value"


def at_behind_name(reader, token):
    if token.form != "[":
        end_operand(reader, NO_ROW)
        return at_behind_value(reader, token)
    if reader.nested == MOST_NESTED:
        return None
    array = reader.current.mentions[-1]
    array.purpose = ARRAY
    frame = Frame("]", 0, MOST_AXES)
    frame.array = array
    nest(reader, frame)
    return "first value"


def at_behind_value(reader, token):
    frame = reader.frames[-1]
    if token.form in ROW_LEVELS:
        return go_on_row(frame, ROW_LEVELS[token.form])
    if token.form in COMPARISONS:
        return compare(frame)
    if token.form == "," and frame.begun < frame.most:
        begin_value(frame)
        return "value"
    if token.form == frame.closer and frame.begun >= frame.fewest:
        return close(reader)
    return None


def end_line(reader):
    reader.done.append(reader.current)
    return "line"


def mention(reader, purpose, token):
    reader.current.mentions.append(Mention(purpose, token.word, token.place))


def nest(reader, frame):
    reader.nested += 1
    reader.frames.append(frame)
    begin_value(frame)


def close(reader):
    frame = reader.frames.pop()
    # The outermost one is the line's equation.
    if not reader.frames:
        return end_line(reader)
    reader.nested -= 1
    array = frame.array
    if array is not None:
        array.count = frame.begun
    if frame.ranges > 0:
        reader.current.mentions.append(Mention(END, "", 0, frame.ranges))
    return end_operand(reader, row_of_value(frame) if frame.grouping else NO_ROW)


def begin_value(frame):
    frame.begun += 1
    frame.compared = False
    frame.rows = [0] * LEVELS


def end_operand(reader, row):
    """The operand that's behind the frame's prefixes is over, and so are they."""
    frame = reader.frames[-1]
    frame.operand = row if frame.prefixes == 0 else NO_ROW
    reader.nested -= frame.prefixes
    frame.prefixes = 0
    return "behind value"


def compare(frame):
    if frame.compared:
        return None
    frame.compared = True
    frame.rows = [0] * LEVELS
    return "value"


def go_on_row(frame, level):
    operands = operands_so_far(frame, level)
    if operands == MOST_OPERANDS:
        return None
    frame.rows[level] = operands + 1
    for tighter in range(level + 1, LEVELS):
        frame.rows[tighter] = 0
    return "value"


def operands_so_far(frame, level):
    if frame.rows[level] > 0:
        return frame.rows[level]
    begins_row = not any(frame.rows[level + 1:])
    if begins_row and frame.operand[0] == level:
        return frame.operand[1]
    return 1


def row_of_value(frame):
    """The level and the operands of the row that the frame's whole value is: its loosest one."""
    if frame.compared:
        return NO_ROW
    for level, operands in enumerate(frame.rows):
        if operands > 0:
            return (level, operands)
    return frame.operand


STEPS = {
    "line": at_line,
    "line name": at_line_name,
    "end": at_end,
    "axes": at_axes,
    "first axis": at_first_axis,
    "axis": at_axis,
    "less": at_less,
    "bound": at_bound,
    "behind axis": at_behind_axis,
    "colon": at_colon,
    "kind": at_kind,
    "equals": at_equals,
    "first value": at_first_value,
    "value": at_value,
    "parenthesis": at_parenthesis,
    "behind name": at_behind_name,
    "behind value": at_behind_value,
}
