"""Tells calls as the interface does, and takes its answers apart again."""

import unittest

from axisprograms.programs import answers

FIXED_WORDS = ("size in let out if sum product least greatest min max abs quo rem high rotl ones lead trail").split()
KINDS = "u8 i8 u16 i16 u32 i32 u64 i64 i128".split()
SIGNS = "== <= << >> [ ] ( ) , : ; = < + - * / % & | ^ ~".split()

# Stands in a test's text before the place that is to be told, and is no part of the text.
MARK = "\u00a4"
BEFORE_VALUE = "let x[]:u8="


def bytes_of(text):
    return list(text.encode("latin-1"))


def read(text):
    return [0, len(text)] + bytes_of(text)


def lines():
    return [1]


def line(number):
    return [2, number]


def find(word):
    return [3, len(word)] + bytes_of(word)


def ask(*calls):
    """The answers to the calls on one object, a list of numbers each."""
    given = answers([number for call in calls for number in call])
    apart = []
    place = 0
    while place < len(given):
        end = place + 1 + given[place]
        apart.append(given[place + 1:end])
        place = end
    assert place == len(given)
    assert len(apart) == len(calls)
    return apart


def answer_to_read(text):
    return ask(read(text))[0]


class ReadCase(unittest.TestCase):
    """Each of these also looks at whether the program has been taken, by how many lines it has behind the read."""

    def taken(self, text, line_count=None):
        told = ask(read("size before; size too;"), read(text), lines())
        self.assertEqual(told[1], [0], text)
        if line_count is not None:
            self.assertEqual(told[2], [line_count], text)

    def refused_at(self, number, text, place):
        told = ask(read("size before; size too;"), read(text), lines())
        self.assertEqual(told, [[0], [number, place], [2]], text)

    def refused(self, number, marked):
        self.assertEqual(marked.count(MARK), 1, marked)
        self.refused_at(number, marked.replace(MARK, ""), marked.index(MARK))

    def value_taken(self, value):
        self.taken(BEFORE_VALUE + value + ";", 1)

    def value_refused(self, marked):
        self.refused(-1, BEFORE_VALUE + marked)
