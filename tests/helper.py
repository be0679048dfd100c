"""Tells calls as the interface does, and takes its answers apart again."""

import inspect
import sys
import unittest

from axisprograms.programs import answers

FIXED_WORDS = ("size in let out if sum product least greatest min max abs quo rem high rotl ones lead trail").split()
KINDS = "u8 i8 u16 i16 u32 i32 u64 i64 i128".split()
SIGNS = "== <= << >> [ ] ( ) , : ; = < + - * / % & | ^ ~".split()
# The operators of each level of rows, the loosest first.
ROWS = (("|",), ("^",), ("&",), ("<<", ">>"), ("+", "-"), ("*", "/", "%"))

# Stands in a test's text before the place that is to be told, and is no part of the text.
MARK = "\u00a4"
BEFORE_VALUE = "let x[]:u8="


def bytes_of(word):
    return list(word.encode("latin-1"))


def read(program):
    return [0] + counted(program)


def lines():
    return [1]


def line(number):
    return [2, number]


def find(word):
    return [3] + counted(word)


def line_text(number):
    return [4, number]


def print_all():
    return [5]


def needs(one, other):
    return [6, one, other]


def counted(word):
    """How texts are handed in and told: how many bytes, and they."""
    return [len(word)] + bytes_of(word)


def told_text(told):
    """The text of an answer to text or print."""
    assert told[0] == 0 and told[1] == len(told) - 2
    return bytes(told[2:]).decode("latin-1")


def ask(*calls):
    """The answers to the calls on one object, a list of numbers each."""
    told = apart(answers([number for call in calls for number in call]))
    assert len(told) == len(calls)
    return told


def apart(given):
    """What has been answered to each call."""
    told = []
    place = 0
    while place < len(given):
        end = place + 1 + given[place]
        told.append(given[place + 1:end])
        place = end
    assert place == len(given)
    return told


def answers_with_few_calls_within_one_another(calls):
    """Fails where what is nested, or long, is gone through by calls within calls and not by loops."""
    allowed = sys.getrecursionlimit()
    sys.setrecursionlimit(len(inspect.stack()) + 30)
    try:
        return answers(calls)
    finally:
        sys.setrecursionlimit(allowed)


def row(operators, operands, first="1"):
    """A row of so many operands, the first of them as it's told, with the operators by turns."""
    text = first
    for number in range(operands - 1):
        text += operators[number % len(operators)] + "2"
    return text


def answer_to_read(text):
    return ask(read(text))[0]


def printed_lines(program):
    """The printed form of each line, told by text."""
    told = ask(read(program), lines())
    assert told[0] == [0], (program, told[0])
    return [told_text(answer) for answer in ask(read(program), *[line_text(number) for number in range(told[1][0])])[1:]]


def printed_program(program):
    told = ask(read(program), print_all())
    assert told[0] == [0], (program, told[0])
    return told_text(told[1])


def whole_look(program):
    """What the calls tell of a program that is read, every line and every pair of them."""
    count = ask(read(program), lines())[1][0]
    names = [bytes(ask(read(program), line(number))[1][2:-3]).decode() for number in range(count)]
    told = ask(read(program), lines(), print_all(), line(count), line_text(count))
    for number, name in enumerate(names):
        pairs = [needs(number, other) for other in range(count + 1)]
        told += ask(read(program), line(number), line_text(number), find(name), *pairs)
    return told


class ReadCase(unittest.TestCase):
    """Each of these also looks at whether the program has been taken, by how many lines it has behind the read."""

    def taken(self, text, line_count=None):
        told = ask(read("size before; size too;"), read(text), lines())
        self.assertEqual(told[1], [0], text)
        if line_count is not None:
            self.assertEqual(told[2], [line_count], text)

    def refused_at(self, number, text, place):
        told = ask(read("size before; size too;"), read(text), lines())
        self.assertEqual(told, [[0], [number, place], [2]], text)

    def refused(self, number, marked):
        self.assertEqual(marked.count(MARK), 1, marked)
        self.refused_at(number, marked.replace(MARK, ""), marked.index(MARK))

    def value_taken(self, value):
        self.taken(BEFORE_VALUE + value + ";", 1)

    def value_refused(self, marked):
        self.refused(-1, BEFORE_VALUE + marked)


class PrintCase(unittest.TestCase):

    # What the values of these tests name.
    BEFORE = "size a;size b;size c;size d;in e[9]:u8;in f[]:u8;in g[2,3]:u8;in h[1,1,1,1]:u8;"

    def reads_as_the_same(self, program):
        printed = printed_program(program)
        if len(printed) > 1024:
            self.assertEqual(answer_to_read(printed), [-6])
        else:
            self.assertEqual(answer_to_read(printed), [0], printed)
            # Said by itself: to show where long lists differ takes too long.
            self.assertTrue(whole_look(printed) == whole_look(program), program)

    def values_printed(self, pairs):
        """Each value is printed as the one that is told with it, which by itself is printed as it stands."""
        batch = 100
        for begin in range(0, len(pairs), batch):
            some = pairs[begin:begin + batch]
            for values in ([pair[0] for pair in some], [pair[1] for pair in some]):
                calls = [call for value in values for call in (read(self.BEFORE + self.line_of(value)), line_text(8))]
                told = ask(*calls)
                for value, pair, taken, answer in zip(values, some, told[::2], told[1::2]):
                    self.assertEqual(taken, [0], value)
                    self.assertEqual(told_text(answer), self.line_of(pair[1]), value)

    def line_of(self, value):
        return BEFORE_VALUE + value + ";"

    def value_printed(self, value, wanted):
        self.values_printed([(value, wanted)])
        self.reads_as_the_same(self.BEFORE + self.line_of(value))
