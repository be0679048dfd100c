"""A second reader and printer, written straight from the grammar by calls within calls, and a maker of texts."""

import random
import re

from tests.helper import FIXED_WORDS, KINDS, ROWS, SIGNS, counted

TOKEN = re.compile(r"[ \t\n\r]+|[0-9]+|[A-Za-z_][A-Za-z0-9_]*|==|<=|<<|>>|[\x00-\xff]")
COMPARISON, EITHER, SIGNED, PRIMARY = -1, 0, 6, 7
ONE = ("abs", "ones", "lead", "trail")
TWO = ("min", "max", "quo", "rem", "high", "rotl")
REDUCTIONS = ("sum", "product", "least", "greatest")


class Fault(Exception):
    pass


class Node:
    """A value that has been read: its level, how many operands its row has, and what it's printed as by itself."""

    def __init__(self, level, operands, text):
        self.level = level
        self.operands = operands
        self.text = text

    def within(self, wanted):
        return self.text if self.level >= wanted else "(" + self.text + ")"


class Reference:
    """Gives back what read must answer; its lines are dicts with what the other calls tell."""

    def __init__(self, text):
        self.tokens = [(found.group(), found.start()) for found in TOKEN.finditer(text) if found.group().strip(" \t\n\r")]
        self.length = len(text)
        self.at = 0
        self.lines = []
        self.checks = []

    def answer(self):
        try:
            while self.at < len(self.tokens):
                self.line()
        except Fault:
            return [-1, self.place()]
        wrong = sorted((place, number) for place, number in self.wrong_names())
        return [-wrong[0][1], wrong[0][0]] if wrong else [0]

    def place(self):
        return self.tokens[self.at][1] if self.at < len(self.tokens) else self.length

    def look(self):
        """The token's form."""
        if self.at == len(self.tokens):
            return "nothing"
        word = self.tokens[self.at][0]
        if word in KINDS:
            return "kind"
        if word in FIXED_WORDS or word in SIGNS:
            return word
        if re.fullmatch("[0-9]+", word):
            return "number" if int(word) < 2 ** 127 else "bad"
        if re.fullmatch("[A-Za-z_][A-Za-z0-9_]*", word):
            return "name" if len(word) < 16 else "bad"
        return "bad"

    def take(self, *forms):
        if self.look() not in forms:
            raise Fault
        self.at += 1
        return self.tokens[self.at - 1]

    def line(self):
        word = self.take("size", "in", "let", "out")[0]
        name = self.take("name")
        self.arrays = []
        rank, kind, text = 0, None, word + " " + name[0]
        if word != "size":
            self.take("[")
            indices = []
            axes = ""
            if self.look() != "]":
                rank, indices, axes = self.axes(word != "in", [])
            self.take("]")
            self.take(":")
            kind = self.take("kind")[0]
            text += "[" + axes + "]:" + kind
            if word != "in":
                self.take("=")
                text += "=" + self.value(0, indices).text
        self.take(";")
        self.lines.append({"word": word, "name": name[0], "place": name[1], "kind": kind, "rank": rank,
                           "text": text + ";", "arrays": self.arrays})

    def axes(self, with_names, indices):
        indices = list(indices)
        count = 0
        text = ""
        while True:
            if with_names:
                name = self.take("name")
                self.checks.append(("range", name, list(indices), 0))
                indices.append(name[0])
                self.take("<")
                text += name[0] + "<"
            bound = self.look()
            token = self.take("number", "name")
            if bound == "name":
                self.checks.append(("bound", token, [], 0))
            text += token[0] if bound == "name" else str(int(token[0]))
            count += 1
            if count == 4 or self.look() != ",":
                return count, indices, text
            self.take(",")
            text += ","

    def value(self, depth, indices):
        left = self.row(0, depth, indices)
        if self.look() in ("<", "<=", "=="):
            sign = self.take("<", "<=", "==")[0]
            right = self.row(0, depth, indices)
            return Node(COMPARISON, 2, left.within(EITHER) + sign + right.within(EITHER))
        return left

    def row(self, level, depth, indices):
        if level == SIGNED:
            return self.signed(depth, indices)
        whole = self.row(level + 1, depth, indices)
        operands = whole.operands if whole.level == level else 1
        while self.look() in ROWS[level]:
            if operands == 16:
                raise Fault
            sign = self.take(*ROWS[level])[0]
            further = self.row(level + 1, depth, indices)
            operands += 1
            whole = Node(level, operands, whole.within(level) + sign + further.within(level + 1))
        return whole

    def signed(self, depth, indices):
        if self.look() in ("-", "~"):
            self.deeper(depth)
            sign = self.take("-", "~")[0]
            return Node(SIGNED, 1, sign + self.signed(depth + 1, indices).within(SIGNED))
        return self.primary(depth, indices)

    def deeper(self, depth):
        if depth == 20:
            raise Fault

    def primary(self, depth, indices):
        form = self.look()
        if form == "(":
            self.deeper(depth)
            self.at += 1
            inner = self.value(depth + 1, indices)
            self.take(")")
            return inner
        if form == "name":
            text = self.named(depth, indices)
        elif form in ONE + TWO + ("if",):
            text = self.function(form, depth, indices)
        elif form in REDUCTIONS:
            text = self.reduction(form, depth, indices)
        else:
            text = str(int(self.take("number")[0]))
        return Node(PRIMARY, 1, text)

    def function(self, word, depth, indices):
        self.deeper(depth)
        self.at += 1
        self.take("(")
        values = []
        for number in range(1 if word in ONE else 2 if word in TWO else 3):
            if number:
                self.take(",")
            values.append(self.value(depth + 1, indices).text)
        self.take(")")
        return word + "(" + ",".join(values) + ")"

    def reduction(self, word, depth, indices):
        self.deeper(depth)
        self.at += 1
        self.take("(")
        count, inner, ranges = self.axes(True, indices)
        self.take(":")
        value = self.value(depth + 1, inner).text
        self.take(")")
        return word + "(" + ranges + ":" + value + ")"

    def named(self, depth, indices):
        token = self.take("name")
        if self.look() != "[":
            self.checks.append(("value", token, indices, 0))
            return token[0]
        self.deeper(depth)
        self.at += 1
        values = []
        if self.look() != "]":
            values.append(self.value(depth + 1, indices).text)
            while len(values) < 4 and self.look() == ",":
                self.at += 1
                values.append(self.value(depth + 1, indices).text)
        self.take("]")
        self.checks.append(("array", token, indices, len(values)))
        self.arrays.append(token[0])
        return token[0] + "[" + ",".join(values) + "]"

    def wrong_names(self):
        first = {}
        for line in self.lines:
            if line["name"] in first:
                yield line["place"], 2
            first.setdefault(line["name"], (line["word"], line["rank"]))
        for sizes, most in ((True, 8), (False, 16)):
            alike = [line for line in self.lines if (line["word"] == "size") == sizes]
            for line in alike[most:]:
                yield line["place"], 5
        for purpose, (name, place), indices, count in self.checks:
            word, rank = first.get(name, (None, 0))
            if purpose == "range" and (name in indices or word):
                yield place, 2
            if purpose == "bound" and word != "size":
                yield place, 3
            if purpose == "value" and word != "size" and name not in indices:
                yield place, 3
            if purpose == "array" and word in (None, "size"):
                yield place, 3
            if purpose == "array" and word not in (None, "size") and rank != count:
                yield place, 4


class ReferenceBook:
    """Gives back what each call must answer, told as its word and what it asks."""

    def __init__(self):
        self.program = []

    def answer(self, word, *asked):
        return getattr(self, "answer_to_" + word)(*asked)

    def answer_to_read(self, text):
        if len(text) > 1024:
            return [-6]
        reference = Reference(text)
        told = reference.answer()
        if told == [0]:
            self.program = reference.lines
        return told

    def answer_to_lines(self):
        return [len(self.program)]

    def answer_to_line(self, number):
        if number >= len(self.program):
            return [-1]
        line = self.program[number]
        kind = 0 if line["word"] == "size" else KINDS.index(line["kind"])
        return [0] + counted(line["name"]) + [("size", "in", "let", "out").index(line["word"]), kind, line["rank"]]

    def answer_to_find(self, name):
        names = [line["name"] for line in self.program]
        return [names.index(name) if name in names else -1]

    def answer_to_text(self, number):
        return [0] + counted(self.program[number]["text"]) if number < len(self.program) else [-1]

    def answer_to_print(self):
        return [0] + counted("".join([line["text"] + "\n" for line in self.program]))

    def answer_to_needs(self, one, other):
        for number in (one, other):
            if number >= len(self.program) or self.program[number]["word"] == "size":
                return [-1]
        return [1 if self.program[other]["name"] in self.needed_by(self.program[one]["name"]) else 0]

    def needed_by(self, name):
        """Steps are added until none is new."""
        named = {line["name"]: set(line["arrays"]) for line in self.program}
        needed = set(named[name])
        while True:
            further = needed.union(*[named[other] for other in needed])
            if further == needed:
                return needed
            needed = further


class Maker:
    """Makes texts that are mostly programs, and spoils them."""

    NAMES = ("a", "b", "c", "n", "m", "i", "j", "k")

    def __init__(self, beginning):
        self.draw = random.Random(beginning)

    def program(self):
        names = list(self.NAMES)
        self.draw.shuffle(names)
        lines = []
        self.sizes = names[:self.draw.randrange(3)]
        self.arrays = {name: self.draw.randrange(4) for name in names[3:3 + self.draw.randrange(1, 3)]}
        self.free = names[5:]
        for name in self.sizes:
            lines.append(["size", name, ";"])
        for name, rank in self.arrays.items():
            lines.append(self.array_line(name, rank))
        if self.draw.randrange(6) == 0:
            lines.append(["size", self.draw.choice(names), ";"])
        self.draw.shuffle(lines)
        return [token for line in lines for token in line]

    def array_line(self, name, rank):
        word = self.draw.choice(["in", "let", "out", "let"])
        kind = self.draw.choice(KINDS)
        if word == "in":
            bounds = [[self.bound()] for number in range(rank)]
            return [word, name, "["] + self.joined(bounds) + ["]", ":", kind, ";"]
        indices = self.free[:rank]
        ranges = self.joined([[index, "<", self.bound()] for index in indices])
        return [word, name, "["] + ranges + ["]", ":", kind, "="] + self.value(self.draw.randrange(4), indices) + [";"]

    def joined(self, parts):
        whole = []
        for number, part in enumerate(parts):
            whole += ([","] if number else []) + part
        return whole

    def bound(self):
        return self.draw.choice(self.sizes + ["3", "007"])

    def value(self, depth, indices):
        value = self.row(depth, indices)
        if self.draw.randrange(5) == 0:
            value = value + [self.draw.choice(["<", "<=", "=="])] + self.row(depth - 1, indices)
        return value

    def row(self, depth, indices):
        value = self.primary(depth, indices)
        for number in range(self.draw.choice([0, 0, 1, 1, 2, 3])):
            value = value + [self.draw.choice(self.draw.choice(ROWS))] + self.primary(depth - 1, indices)
        if self.draw.randrange(12) == 0:
            operators = self.draw.choice(ROWS)
            for number in range(self.draw.randrange(12, 18)):
                value = value + [self.draw.choice(operators), "1"]
            if self.draw.randrange(2):
                value = ["("] + value + [")", self.draw.choice(operators), "2"]
        return value

    def primary(self, depth, indices):
        if depth <= 0:
            return [self.draw.choice(["1", "22"] + self.sizes + indices)]
        form = self.draw.choice([0, 0, 0, 1, 2, 3, 4, 4, 5, 6, 7])
        if form == 0:
            name = self.draw.choice(list(self.arrays))
            count = self.draw.choice([self.arrays[name]] * 5 + [self.draw.randrange(5)])
            values = [self.value(depth - 2, indices) for value in range(count)]
            return [name, "["] + self.joined(values) + ["]"]
        if form == 1:
            return [self.draw.choice(ONE), "("] + self.value(depth - 1, indices) + [")"]
        if form == 2:
            values = [self.value(depth - 2, indices) for number in range(2)]
            return [self.draw.choice(TWO), "("] + self.joined(values) + [")"]
        if form == 3:
            return ["if", "("] + self.joined([self.value(depth - 2, indices) for number in range(3)]) + [")"]
        if form == 4:
            fresh = [name for name in self.free if name not in indices][:1] or ["q"]
            return ([self.draw.choice(REDUCTIONS), "(", fresh[0], "<", self.bound(), ":"]
                    + self.value(depth - 1, indices + fresh) + [")"])
        if form == 5:
            count = self.draw.choice([1, 1, 2, 8, 17])
            return [self.draw.choice("-~") for number in range(count)] + self.primary(depth - 1, indices)
        if form == 6:
            count = self.draw.choice([1, 1, 1, 2, 6, 15])
            return ["("] * count + self.value(depth - 1, indices) + [")"] * count
        return self.primary(0, indices)

    def misnamed(self, tokens):
        """The tokens with other names in some places, and with a bracket's value more or less."""
        tokens = list(tokens)
        for number in range(self.draw.randrange(3)):
            places = [place for place, token in enumerate(tokens) if token in self.NAMES]
            tokens[self.draw.choice(places)] = self.draw.choice(self.NAMES)
        commas = [place for place, token in enumerate(tokens) if token == ","]
        if commas and self.draw.randrange(3) == 0:
            place = self.draw.choice(commas)
            tokens[place:place + 1] = self.draw.choice([["+"], [",", "1", ","]])
        return tokens

    def changed(self, tokens):
        return self.misnamed(tokens) if self.draw.randrange(3) else self.spoilt(tokens)

    def spoilt(self, tokens):
        tokens = list(tokens)
        every = FIXED_WORDS + KINDS + SIGNS + list(self.NAMES) + ["1", str(2 ** 127), "$", ">", "abcdefghijklmnop"]
        for number in range(self.draw.choice([0, 1, 1, 1, 2, 3])):
            at = self.draw.randrange(len(tokens) + 1)
            change = self.draw.randrange(5)
            if change == 0:
                tokens.insert(at, self.draw.choice(every))
            elif change == 1:
                tokens[at:at + 1] = []
            elif change == 2:
                tokens[at:at + 1] = [self.draw.choice(every)]
            elif change == 3:
                tokens = tokens[:at]
            else:
                tokens[at:at] = tokens[at:at + self.draw.randrange(1, 5)]
        return tokens

    def written(self, tokens):
        """Now and then without the blanks that are needed, so that tokens run into one another."""
        tight = self.draw.choice([0, 0, 0, 1, 1, 1, 2])
        text = ""
        for token in tokens:
            between = "" if tight == 2 else self.draw.choice([" ", "\n", "\t"])
            if tight == 1 and not (text[-1:].isalnum() and token[:1].isalnum()):
                between = ""
            text += between + token
        return text
