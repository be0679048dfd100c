"""Read against a second reader on made and spoilt texts.

The texts are drawn from a fixed beginning, so each run looks at the same ones.
"""

import random
import unittest

from tests.helper import FIXED_WORDS, KINDS, SIGNS, answer_to_read
from tests.reference import Maker, Reference


class AgainstTheReference(unittest.TestCase):

    def test_made_and_spoilt_texts(self):
        told = {}
        for beginning in range(6000):
            maker = Maker(beginning)
            text = maker.written(maker.changed(maker.program()))[:1024]
            wanted = Reference(text).answer()
            self.assertEqual(answer_to_read(text), wanted, text)
            told[wanted[0]] = told.get(wanted[0], 0) + 1
        # Else the texts would look at too little.
        for number in (0, -1, -2, -3, -4):
            self.assertGreater(told.get(number, 0), 50, told)

    def test_rows_of_random_tokens(self):
        every = FIXED_WORDS + KINDS + SIGNS + ["a", "b", "1", "i"]
        draw = random.Random(7)
        for number in range(3000):
            tokens = [draw.choice(every) for count in range(draw.randrange(6))]
            text = draw.choice(["", "let a[]:u8=", "let a[i<3]:u8=sum(j<", "in a[", "let a[]:u8=b["]) + " ".join(tokens)
            self.assertEqual(answer_to_read(text), Reference(text).answer(), text)

    def test_rows_of_random_bytes(self):
        draw = random.Random(8)
        for number in range(2000):
            text = "".join([chr(draw.choice([draw.randrange(256), draw.randrange(33, 127)])) for count in range(9)])
            text = draw.choice(["", "let a[]:u8=1", "size n;"]) + text
            self.assertEqual(answer_to_read(text), Reference(text).answer(), text)


class EachPrefixGoesOn(unittest.TestCase):
    """What stands before a fault can be gone on to a program: here it is done, a token at a time."""

    # In this order they bring each text to an end.
    ENDINGS = (";", ")", "]", ":", "1", "<", "[", "(", "u8", "=", ",", "q")

    def finished(self, text):
        for number in range(300):
            told = answer_to_read(text)
            if told[0] != -1:
                return text
            for ending in self.ENDINGS:
                longer = text + " " + ending
                told = answer_to_read(longer)
                if told[0] != -1 or told[1] == len(longer):
                    text = longer
                    break
            else:
                self.fail("nothing can stand behind " + text)
        self.fail("no end of " + text)

    def test_before_each_fault(self):
        for beginning in range(400):
            maker = Maker(beginning)
            text = " ".join(maker.changed(maker.program()))[:700]
            told = answer_to_read(text)
            if told[0] == -1:
                whole = self.finished(text[:told[1]])
                self.assertNotEqual(Reference(whole).answer()[0], -1, whole)


if __name__ == "__main__":
    unittest.main()
