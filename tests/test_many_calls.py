"""Rows of calls on one object, all seven in any order, against a second book.

What is asked is drawn from a fixed beginning, so each run asks the same.
"""

import random
import unittest

from axisprograms.programs import answers
from tests import helper
from tests.reference import Maker, ReferenceBook

GREATEST = 9223372036854775807
CALLS = {"read": helper.read, "lines": helper.lines, "line": helper.line, "find": helper.find,
         "text": helper.line_text, "print": helper.print_all, "needs": helper.needs}


class Asker:
    """Draws calls, each told as its word and what it asks."""

    def __init__(self, beginning):
        self.draw = random.Random(beginning)

    def call(self):
        word = self.draw.choice(["read", "lines", "line", "find", "text", "text", "print", "needs", "needs"])
        return (word, *getattr(self, "asked_of_" + word)())

    def asked_of_read(self):
        maker = Maker(self.draw.randrange(100000))
        tokens = maker.program()
        if self.draw.randrange(3) == 0:
            tokens = maker.changed(tokens)
        text = maker.written(tokens)[:300]
        return (self.draw.choice([text] * 20 + ["", " ", "size n;", " " * 1025]),)

    def asked_of_lines(self):
        return ()

    def asked_of_line(self):
        return (self.number(),)

    def asked_of_find(self):
        return (self.draw.choice(Maker.NAMES + ("", "size", "\xff", "ab")),)

    def asked_of_text(self):
        return (self.number(),)

    def asked_of_print(self):
        return ()

    def asked_of_needs(self):
        return (self.number(), self.number())

    def number(self):
        return self.draw.choice([0, 0, 1, 1, 2, 2, 3, 4, 5, GREATEST])


def as_numbers(calls):
    return [number for word, *asked in calls for number in CALLS[word](*asked)]


def up_to_the_longest(calls):
    """As many of the calls as one list has room for."""
    while len(as_numbers(calls)) > 16000:
        calls = calls[:-10]
    return calls


class ManyCallsCase(unittest.TestCase):

    def answered_right(self, calls):
        """What is answered, after a look at each answer and at the list that was handed in."""
        numbers = as_numbers(calls)
        kept = list(numbers)
        told = answers(numbers)
        self.assertTrue(numbers == kept)
        book = ReferenceBook()
        self.assertEqual(len(helper.apart(told)), len(calls))
        for call, answer in zip(calls, helper.apart(told)):
            # Not by assertEqual: to show where long lists differ takes too long.
            self.assertTrue(answer == book.answer(*call), (call, answer))
        return told


class FourHundredCalls(ManyCallsCase):

    def test_drawn_ones(self):
        seen = {}
        for beginning in range(40):
            asker = Asker(beginning)
            calls = up_to_the_longest([asker.call() for number in range(400)])
            for call, answer in zip(calls, helper.apart(self.answered_right(calls))):
                seen.setdefault(call[0], set()).add(answer[0])
        # Else the calls would look at too little.
        self.assertEqual(seen["needs"], {-1, 0, 1})
        self.assertEqual(seen["text"], {-1, 0})
        self.assertEqual(seen["print"], {0})
        self.assertLessEqual({0, -1, -2, -3, -4, -6}, seen["read"])

    def test_just_four_hundred(self):
        calls = [("read", "in a[]:u8;let b[]:u8=(a[]);")]
        calls += [("text", 1), ("needs", 1, 0), ("print",), ("lines",), ("line", 0), ("find", "b"), ("read", "size")] * 57
        self.assertEqual(len(calls), 400)
        self.answered_right(calls)

    def test_longest_answers(self):
        text = "let x[]:u8=" + "+".join(["*".join(["(1)"] * 6)] * 16) + ";"
        calls = [("read", text)] + [("print",), ("text", 0), ("needs", 0, 0)] * 133
        self.assertEqual(len(calls), 400)
        self.answered_right(calls)

    def test_longest_lists(self):
        text = "in a[]:u8;let b[]:u8=a[]-(a[]-a[]);" + " " * 989
        calls = [("read", text), ("text", 1), ("read", "$" * 2000), ("print",), ("needs", 1, 0), ("find", "b" * 2000)] * 3
        calls += [("read", text[:889]), ("print",)]
        self.assertEqual(len(as_numbers(calls)), 16000)
        self.answered_right(calls)


class OneTimeAndTheNext(ManyCallsCase):

    def test_one_behind_the_other(self):
        one = as_numbers([("read", "in a[]:u8;let b[]:u8=a[];"), ("text", 1), ("print",), ("needs", 1, 0)])
        first = answers(one)
        kept = list(first)
        for beginning in range(20):
            asker = Asker(beginning)
            calls = up_to_the_longest([asker.call() for number in range(50)])
            told = self.answered_right(calls)
            told.clear()
            self.assertEqual(first, kept)
            self.assertEqual(answers(one), kept)

    def test_nothing_of_the_one_is_there_in_the_next(self):
        answers(helper.read("in a[]:u8;let b[]:u8=a[];"))
        calls = helper.lines() + helper.line_text(0) + helper.print_all() + helper.needs(1, 0)
        self.assertEqual(answers(calls), [1, 0, 1, -1, 2, 0, 0, 1, -1])

    def test_the_same_list_again(self):
        calls = as_numbers([("read", "in a[]:u8;let b[]:u8=((a[]));"), ("text", 1), ("print",), ("needs", 1, 0)])
        first = answers(calls)
        second = answers(calls)
        self.assertEqual(first, second)
        self.assertIsNot(first, second)
        second[-1] = 99
        self.assertEqual(answers(calls), first)


if __name__ == "__main__":
    unittest.main()
