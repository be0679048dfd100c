"""Read against a second reader, written straight from the grammar by calls within calls, on made and spoilt texts.

The texts are drawn from a fixed beginning, so each run looks at the same ones.
"""

import random
import re
import unittest

from tests.helper import FIXED_WORDS, KINDS, SIGNS, answer_to_read

TOKEN = re.compile(r"[ \t\n\r]+|[0-9]+|[A-Za-z_][A-Za-z0-9_]*|==|<=|<<|>>|[\x00-\xff]")
LEVELS = (("|",), ("^",), ("&",), ("<<", ">>"), ("+", "-"), ("*", "/", "%"))
ONE = ("abs", "ones", "lead", "trail")
TWO = ("min", "max", "quo", "rem", "high", "rotl")
REDUCTIONS = ("sum", "product", "least", "greatest")


class Fault(Exception):
    pass


class Reference:
    """Gives back what read must answer."""

    def __init__(self, text):
        self.tokens = [(found.group(), found.start()) for found in TOKEN.finditer(text) if found.group().strip(" \t\n\r")]
        self.length = len(text)
        self.at = 0
        self.lines = []
        self.checks = []

    def answer(self):
        try:
            while self.at < len(self.tokens):
                self.line()
        except Fault:
            return [-1, self.place()]
        wrong = sorted((place, number) for place, number in self.wrong_names())
        return [-wrong[0][1], wrong[0][0]] if wrong else [0]

    def place(self):
        return self.tokens[self.at][1] if self.at < len(self.tokens) else self.length

    def look(self):
        """The token's form."""
        if self.at == len(self.tokens):
            return "nothing"
        word = self.tokens[self.at][0]
        if word in KINDS:
            return "kind"
        if word in FIXED_WORDS or word in SIGNS:
            return word
        if re.fullmatch("[0-9]+", word):
            return "number" if int(word) < 2 ** 127 else "bad"
        if re.fullmatch("[A-Za-z_][A-Za-z0-9_]*", word):
            return "name" if len(word) < 16 else "bad"
        return "bad"

    def take(self, *forms):
        if self.look() not in forms:
            raise Fault
        self.at += 1
        return self.tokens[self.at - 1]

    def line(self):
        word = self.take("size", "in", "let", "out")[0]
        name = self.take("name")
        rank = 0
        if word != "size":
            self.take("[")
            indices = []
            if self.look() != "]":
                rank, indices = self.axes(word != "in", [])
            self.take("]")
            self.take(":")
            self.take("kind")
            if word != "in":
                self.take("=")
                self.value(0, indices)
        self.take(";")
        self.lines.append((word, name, rank))

    def axes(self, with_names, indices):
        indices = list(indices)
        count = 0
        while True:
            if with_names:
                name = self.take("name")
                self.checks.append(("range", name, list(indices), 0))
                indices.append(name[0])
                self.take("<")
            bound = self.look()
            token = self.take("number", "name")
            if bound == "name":
                self.checks.append(("bound", token, [], 0))
            count += 1
            if count == 4 or self.look() != ",":
                return count, indices
            self.take(",")

    def value(self, depth, indices):
        """The value as (level, operands): level 6 is what is no row, -1 a comparison."""
        left = self.row(0, depth, indices)
        if self.look() in ("<", "<=", "=="):
            self.at += 1
            self.row(0, depth, indices)
            return (-1, 2)
        return left

    def row(self, level, depth, indices):
        if level == 6:
            return self.signed(depth, indices)
        first = self.row(level + 1, depth, indices)
        operands = first[1] if first[0] == level else 1
        whole = first
        while self.look() in LEVELS[level]:
            if operands == 16:
                raise Fault
            self.at += 1
            self.row(level + 1, depth, indices)
            operands += 1
            whole = (level, operands)
        return whole

    def signed(self, depth, indices):
        if self.look() in ("-", "~"):
            self.deeper(depth)
            self.at += 1
            self.signed(depth + 1, indices)
            return (6, 1)
        return self.primary(depth, indices)

    def deeper(self, depth):
        if depth == 20:
            raise Fault

    def primary(self, depth, indices):
        form = self.look()
        if form == "(":
            self.deeper(depth)
            self.at += 1
            inner = self.value(depth + 1, indices)
            self.take(")")
            return inner
        if form == "name":
            self.named(depth, indices)
        elif form in ONE + TWO + ("if",):
            self.deeper(depth)
            self.at += 1
            self.take("(")
            for number in range(1 if form in ONE else 2 if form in TWO else 3):
                if number:
                    self.take(",")
                self.value(depth + 1, indices)
            self.take(")")
        elif form in REDUCTIONS:
            self.deeper(depth)
            self.at += 1
            self.take("(")
            inner = self.axes(True, indices)[1]
            self.take(":")
            self.value(depth + 1, inner)
            self.take(")")
        else:
            self.take("number")
        return (6, 1)

    def named(self, depth, indices):
        token = self.take("name")
        if self.look() != "[":
            self.checks.append(("value", token, indices, 0))
            return
        self.deeper(depth)
        self.at += 1
        count = 0
        if self.look() != "]":
            self.value(depth + 1, indices)
            count = 1
            while count < 4 and self.look() == ",":
                self.at += 1
                self.value(depth + 1, indices)
                count += 1
        self.take("]")
        self.checks.append(("array", token, indices, count))

    def wrong_names(self):
        first = {}
        for word, (name, place), rank in self.lines:
            if name in first:
                yield place, 2
            first.setdefault(name, (word, rank))
        for wanted, most in (((True,), 8), ((False,), 16)):
            alike = [entry for entry in self.lines if (entry[0] == "size") in wanted]
            for entry in alike[most:]:
                yield entry[1][1], 5
        for purpose, (name, place), indices, count in self.checks:
            word, rank = first.get(name, (None, 0))
            if purpose == "range" and (name in indices or word):
                yield place, 2
            if purpose == "bound" and word != "size":
                yield place, 3
            if purpose == "value" and word != "size" and name not in indices:
                yield place, 3
            if purpose == "array" and word in (None, "size"):
                yield place, 3
            if purpose == "array" and word not in (None, "size") and rank != count:
                yield place, 4


class Maker:
    """Makes texts that are mostly programs, and spoils them."""

    NAMES = ("a", "b", "c", "n", "m", "i", "j", "k")

    def __init__(self, beginning):
        self.draw = random.Random(beginning)

    def program(self):
        names = list(self.NAMES)
        self.draw.shuffle(names)
        lines = []
        self.sizes = names[:self.draw.randrange(3)]
        self.arrays = {name: self.draw.randrange(4) for name in names[3:3 + self.draw.randrange(1, 3)]}
        self.free = names[5:]
        for name in self.sizes:
            lines.append(["size", name, ";"])
        for name, rank in self.arrays.items():
            lines.append(self.array_line(name, rank))
        if self.draw.randrange(6) == 0:
            lines.append(["size", self.draw.choice(names), ";"])
        self.draw.shuffle(lines)
        return [token for line in lines for token in line]

    def array_line(self, name, rank):
        word = self.draw.choice(["in", "let", "out", "let"])
        kind = self.draw.choice(KINDS)
        if word == "in":
            bounds = [[self.bound()] for number in range(rank)]
            return [word, name, "["] + self.joined(bounds) + ["]", ":", kind, ";"]
        indices = self.free[:rank]
        ranges = self.joined([[index, "<", self.bound()] for index in indices])
        return [word, name, "["] + ranges + ["]", ":", kind, "="] + self.value(self.draw.randrange(4), indices) + [";"]

    def joined(self, parts):
        whole = []
        for number, part in enumerate(parts):
            whole += ([","] if number else []) + part
        return whole

    def bound(self):
        return self.draw.choice(self.sizes + ["3", "007"])

    def value(self, depth, indices):
        value = self.row(depth, indices)
        if self.draw.randrange(5) == 0:
            value = value + [self.draw.choice(["<", "<=", "=="])] + self.row(depth - 1, indices)
        return value

    def row(self, depth, indices):
        value = self.primary(depth, indices)
        for number in range(self.draw.choice([0, 0, 1, 1, 2, 3])):
            value = value + [self.draw.choice(self.draw.choice(LEVELS))] + self.primary(depth - 1, indices)
        if self.draw.randrange(12) == 0:
            operators = self.draw.choice(LEVELS)
            for number in range(self.draw.randrange(12, 18)):
                value = value + [self.draw.choice(operators), "1"]
            if self.draw.randrange(2):
                value = ["("] + value + [")", self.draw.choice(operators), "2"]
        return value

    def primary(self, depth, indices):
        if depth <= 0:
            return [self.draw.choice(["1", "22"] + self.sizes + indices)]
        form = self.draw.choice([0, 0, 0, 1, 2, 3, 4, 4, 5, 6, 7])
        if form == 0:
            name = self.draw.choice(list(self.arrays))
            count = self.draw.choice([self.arrays[name]] * 5 + [self.draw.randrange(5)])
            values = [self.value(depth - 2, indices) for value in range(count)]
            return [name, "["] + self.joined(values) + ["]"]
        if form == 1:
            return [self.draw.choice(ONE), "("] + self.value(depth - 1, indices) + [")"]
        if form == 2:
            values = [self.value(depth - 2, indices) for number in range(2)]
            return [self.draw.choice(TWO), "("] + self.joined(values) + [")"]
        if form == 3:
            return ["if", "("] + self.joined([self.value(depth - 2, indices) for number in range(3)]) + [")"]
        if form == 4:
            fresh = [name for name in self.free if name not in indices][:1] or ["q"]
            return ([self.draw.choice(REDUCTIONS), "(", fresh[0], "<", self.bound(), ":"]
                    + self.value(depth - 1, indices + fresh) + [")"])
        if form == 5:
            count = self.draw.choice([1, 1, 2, 8, 17])
            return [self.draw.choice("-~") for number in range(count)] + self.primary(depth - 1, indices)
        if form == 6:
            count = self.draw.choice([1, 1, 1, 2, 6, 15])
            return ["("] * count + self.value(depth - 1, indices) + [")"] * count
        return self.primary(0, indices)

    def misnamed(self, tokens):
        """The tokens with other names in some places, and with a bracket's value more or less."""
        tokens = list(tokens)
        for number in range(self.draw.randrange(3)):
            places = [place for place, token in enumerate(tokens) if token in self.NAMES]
            tokens[self.draw.choice(places)] = self.draw.choice(self.NAMES)
        commas = [place for place, token in enumerate(tokens) if token == ","]
        if commas and self.draw.randrange(3) == 0:
            place = self.draw.choice(commas)
            tokens[place:place + 1] = self.draw.choice([["+"], [",", "1", ","]])
        return tokens

    def changed(self, tokens):
        return self.misnamed(tokens) if self.draw.randrange(3) else self.spoilt(tokens)

    def spoilt(self, tokens):
        tokens = list(tokens)
        every = FIXED_WORDS + KINDS + SIGNS + list(self.NAMES) + ["1", str(2 ** 127), "$", ">", "abcdefghijklmnop"]
        for number in range(self.draw.choice([0, 1, 1, 1, 2, 3])):
            at = self.draw.randrange(len(tokens) + 1)
            change = self.draw.randrange(5)
            if change == 0:
                tokens.insert(at, self.draw.choice(every))
            elif change == 1:
                tokens[at:at + 1] = []
            elif change == 2:
                tokens[at:at + 1] = [self.draw.choice(every)]
            elif change == 3:
                tokens = tokens[:at]
            else:
                tokens[at:at] = tokens[at:at + self.draw.randrange(1, 5)]
        return tokens

    def written(self, tokens):
        """Now and then without the blanks that are needed, so that tokens run into one another."""
        tight = self.draw.choice([0, 0, 0, 1, 1, 1, 2])
        text = ""
        for token in tokens:
            between = "" if tight == 2 else self.draw.choice([" ", "\n", "\t"])
            if tight == 1 and not (text[-1:].isalnum() and token[:1].isalnum()):
                between = ""
            text += between + token
        return text


class AgainstTheReference(unittest.TestCase):

    def test_made_and_spoilt_texts(self):
        told = {}
        for beginning in range(6000):
            maker = Maker(beginning)
            text = maker.written(maker.changed(maker.program()))[:1024]
            wanted = Reference(text).answer()
            self.assertEqual(answer_to_read(text), wanted, text)
            told[wanted[0]] = told.get(wanted[0], 0) + 1
        # Else the texts would look at too little.
        for number in (0, -1, -2, -3, -4):
            self.assertGreater(told.get(number, 0), 50, told)

    def test_rows_of_random_tokens(self):
        every = FIXED_WORDS + KINDS + SIGNS + ["a", "b", "1", "i"]
        draw = random.Random(7)
        for number in range(3000):
            tokens = [draw.choice(every) for count in range(draw.randrange(6))]
            text = draw.choice(["", "let a[]:u8=", "let a[i<3]:u8=sum(j<", "in a[", "let a[]:u8=b["]) + " ".join(tokens)
            self.assertEqual(answer_to_read(text), Reference(text).answer(), text)

    def test_rows_of_random_bytes(self):
        draw = random.Random(8)
        for number in range(2000):
            text = "".join([chr(draw.choice([draw.randrange(256), draw.randrange(33, 127)])) for count in range(9)])
            text = draw.choice(["", "let a[]:u8=1", "size n;"]) + text
            self.assertEqual(answer_to_read(text), Reference(text).answer(), text)


class EachPrefixGoesOn(unittest.TestCase):
    """What stands before a fault can be gone on to a program: here it is done, a token at a time."""

    # In this order they bring each text to an end.
    ENDINGS = (";", ")", "]", ":", "1", "<", "[", "(", "u8", "=", ",", "q")

    def finished(self, text):
        for number in range(300):
            told = answer_to_read(text)
            if told[0] != -1:
                return text
            for ending in self.ENDINGS:
                longer = text + " " + ending
                told = answer_to_read(longer)
                if told[0] != -1 or told[1] == len(longer):
                    text = longer
                    break
            else:
                self.fail("nothing can stand behind " + text)
        self.fail("no end of " + text)

    def test_before_each_fault(self):
        for beginning in range(400):
            maker = Maker(beginning)
            text = " ".join(maker.changed(maker.program()))[:700]
            told = answer_to_read(text)
            if told[0] == -1:
                whole = self.finished(text[:told[1]])
                self.assertNotEqual(Reference(whole).answer()[0], -1, whole)


if __name__ == "__main__":
    unittest.main()
