"""The call print, and that what is printed is read as the same program."""

import unittest

from tests.helper import (PrintCase, answer_to_read, ask, counted, find, line, line_text, lines, print_all,
                          printed_lines, printed_program, read)
from tests.reference import Maker, Reference

PROGRAM = "size n;in first[n,003]:i16;let b_2[i<n]:u64=((first[i,0]));out C[]:i128=sum( i < n : (b_2[i]) );size m;"
PRINTED = "size n;\nin first[n,3]:i16;\nlet b_2[i<n]:u64=first[i,0];\nout C[]:i128=sum(i<n:b_2[i]);\nsize m;\n"
NOTHING = [0, 0]


class PrintCall(unittest.TestCase):

    def test_the_program_of_no_lines(self):
        self.assertEqual(ask(print_all()), [NOTHING])
        self.assertEqual(ask(read(""), print_all()), [[0], NOTHING])
        self.assertEqual(ask(read(PROGRAM), read(" \n\t\r"), print_all())[1:], [[0], NOTHING])

    def test_one_line(self):
        self.assertEqual(ask(read("size n;"), print_all()), [[0], [0, 8, 115, 105, 122, 101, 32, 110, 59, 10]])
        self.assertEqual(printed_program(" let\ta [ ] :u8 = ( 1 ) ;\n\n"), "let a[]:u8=1;\n")

    def test_many_lines(self):
        self.assertEqual(ask(read(PROGRAM), print_all()), [[0], [0] + counted(PRINTED)])

    def test_each_line_and_a_line_feed_behind_it(self):
        self.assertEqual(printed_program(PROGRAM), "".join([text + "\n" for text in printed_lines(PROGRAM)]))

    def test_lines_stay_in_their_order(self):
        parts = PRINTED.split("\n")[:-1]
        for first in range(5):
            turned = parts[first:] + parts[:first]
            self.assertEqual(printed_program("".join(turned)), "\n".join(turned) + "\n")

    def test_behind_a_refused_read(self):
        for refused in ("size", "$", "size n;size n;", "let a[]:u8=q;", "let a[]:u8=a[1];", " " * 1025, "x" * 2000,
                        "".join(["size s{};".format(number) for number in range(9)])):
            self.assertEqual(ask(read(PROGRAM), read(refused), print_all())[2], [0] + counted(PRINTED), refused)
            self.assertEqual(ask(read(refused), print_all())[1], NOTHING)

    def test_behind_another_read(self):
        told = ask(read(PROGRAM), print_all(), read("size q;"), print_all(), read(PROGRAM), print_all())
        self.assertEqual(told[1::2], [[0] + counted(PRINTED), [0] + counted("size q;\n"), [0] + counted(PRINTED)])

    def test_again_and_again(self):
        self.assertEqual(ask(read(PROGRAM), *[print_all()] * 50)[1:], [[0] + counted(PRINTED)] * 50)


class ReadAsTheSame(PrintCase):

    def test_programs(self):
        for program in ("", " ", "size n;", PROGRAM, PRINTED, self.BEFORE, "in a[]:u8;out b[]:i8=a[]-(a[]-(-a[]));"):
            self.reads_as_the_same(program)

    def test_what_is_printed_is_printed_as_it_stands(self):
        self.assertEqual(printed_program(PRINTED), PRINTED)

    def test_all_calls_on_one_object(self):
        look = [lines(), line(2), line_text(2), find("C"), find("i"), print_all(), line_text(5)]
        told = ask(read(PROGRAM), *look, read(PRINTED), *look)
        self.assertEqual(told[:8], told[8:])

    def test_most_lines_and_names(self):
        sizes = ["size s{};".format(number) for number in range(8)]
        arrays = ["out a{0}[i<s{1}]:u8=a{2}[i];".format(number, number % 8, (number + 1) % 16) for number in range(16)]
        self.reads_as_the_same(" ".join(sizes + arrays))
        self.reads_as_the_same("".join(arrays + sizes))

    def test_a_printed_text_that_is_too_long(self):
        sizes = ["size s{};".format(number) for number in range(8)]
        # Line feeds are all that is printed beyond what is read.
        for length in (1015, 1016, 1017, 1024):
            filler = "let x[]:u8=" + "+".join(["-" * 20 + "1"] * 16) + ";"
            filler += "let y[]:u8=" + "+".join(["-" * 20 + "1"] * 16) + ";"
            left = length - len(filler) - len("".join(sizes)) - len("let z[]:u8=;")
            filler += "let z[]:u8=" + self.value_of_length(left) + ";"
            program = "".join(sizes) + filler
            self.assertEqual(len(program), length)
            printed = printed_program(program)
            self.assertEqual(len(printed), length + 11)
            self.assertEqual(answer_to_read(printed), [0] if length + 11 <= 1024 else [-6])
            self.assertEqual(ask(read(program), read(printed), print_all())[2], [0] + counted(printed))
            self.reads_as_the_same(program)

    def value_of_length(self, length):
        """Minus signs and ones, in sums of few operands."""
        value = ""
        while length - len(value) > 22:
            value += "-" * 20 + "1" + ("^" if len(value) % 8 == 0 else "+")
        return value + "-" * (length - len(value) - 1) + "1"

    def test_one_of_just_the_longest_length(self):
        base = "size a;size b;size c;size d;"
        left = 1024 - 5 - len(base) - len("let z[]:u8=;")
        value = "+".join(["*".join(["1"] * 16)] * 16)
        value += "<" + self.value_of_length(left - len(value) - 1)
        program = base + "let z[]:u8=" + value + ";"
        self.assertEqual(len(program), 1019)
        self.assertEqual(len(printed_program(program)), 1024)
        self.assertEqual(answer_to_read(printed_program(program)), [0])
        self.reads_as_the_same(program)


class AgainstTheReference(PrintCase):
    """Texts drawn from a fixed beginning, printed by a second printer that is written straight from the grammar."""

    def test_made_programs(self):
        printed = changed = 0
        for beginning in range(3000):
            maker = Maker(beginning)
            text = maker.written(maker.program())[:1024]
            reference = Reference(text)
            if reference.answer() != [0]:
                continue
            wanted = [line["text"] for line in reference.lines]
            self.assertEqual(printed_lines(text), wanted, text)
            self.assertEqual(printed_program(text), "".join([line + "\n" for line in wanted]))
            printed += 1
            changed += "".join(wanted).count("(") < text.count("(")
            if beginning % 5 == 0:
                self.reads_as_the_same(text)
        # Else the texts would look at too little.
        self.assertGreater(printed, 800)
        self.assertGreater(changed, 200)


if __name__ == "__main__":
    unittest.main()
