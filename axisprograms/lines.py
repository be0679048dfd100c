"""The lines of a program, and what their names are mentioned for."""

# A line's role is the place of its first word here.
LINE_WORDS = ("size", "in", "let", "out")
SIZE = 0
IN = 1

# What a name is mentioned for; END takes the last ranges out of force and has no name.
BOUND = "bound"
RANGE = "range"
VALUE = "value"
ARRAY = "array"
END = "end"


class Line:
    """The tokens are all of the line's; the mentions stand in the order of their places."""

    def __init__(self, role):
        self.role = role
        self.name = ""
        self.place = 0
        self.kind = 0
        self.rank = 0
        self.tokens = []
        self.mentions = []


class Mention:
    """The count is an ARRAY's values in brackets, or the ranges that an END ends."""

    def __init__(self, purpose, name, place, count=0):
        self.purpose = purpose
        self.name = name
        self.place = place
        self.count = count
