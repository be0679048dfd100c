"""The calls read, lines, line and find, and how all calls are told and answered."""

import unittest

from axisprograms.programs import UnknownCall, answers
from tests.helper import FIXED_WORDS, KINDS, ask, bytes_of, find, line, line_text, lines, needs, print_all, read

GREATEST = 9223372036854775807
PROGRAM = "size n;in first[n,3]:i16;let b_2[i<n]:u64=first[i,0];out C[]:i128=sum(i<n:b_2[i]);size m;"


def line_answer(name, role, kind, rank):
    return [0, len(name)] + bytes_of(name) + [role, kind, rank]


class BeforeAnyRead(unittest.TestCase):

    def test_the_program_of_no_lines(self):
        told = ask(lines(), line(0), line(1), line(GREATEST), find(""), find("n"), find("size"))
        self.assertEqual(told, [[0], [-1], [-1], [-1], [-1], [-1], [-1]])
        told = ask(line_text(0), line_text(GREATEST), print_all(), needs(0, 0), needs(0, GREATEST), lines())
        self.assertEqual(told, [[-1], [-1], [0, 0], [-1], [-1], [0]])


class LinesCall(unittest.TestCase):

    def test_counts(self):
        self.assertEqual(ask(read(PROGRAM), lines(), read(""), lines(), read("size n;"), lines()),
                         [[0], [5], [0], [0], [0], [1]])


class LineCall(unittest.TestCase):

    def test_each_line(self):
        told = ask(read(PROGRAM), line(0), line(1), line(2), line(3), line(4))
        self.assertEqual(told[1:], [
            line_answer("n", 0, 0, 0),
            line_answer("first", 1, 3, 2),
            line_answer("b_2", 2, 6, 1),
            line_answer("C", 3, 8, 0),
            line_answer("m", 0, 0, 0),
        ])

    def test_the_last_line_and_beyond(self):
        told = ask(read(PROGRAM), line(4), line(5), line(6), line(GREATEST), line(GREATEST - 1))
        self.assertEqual(told[1:], [line_answer("m", 0, 0, 0), [-1], [-1], [-1], [-1]])

    def test_each_kind_and_rank(self):
        for kind, word in enumerate(KINDS):
            for rank in range(5):
                bounds = ",".join(["3"] * rank)
                ranges = ",".join([name + "<3" for name in "ijkl"[:rank]])
                text = "in a[{0}]:{1};let b[{2}]:{1}=1;out c[{2}]:{1}=1;".format(bounds, word, ranges)
                self.assertEqual(ask(read(text), line(0), line(1), line(2))[1:], [
                    line_answer("a", 1, kind, rank),
                    line_answer("b", 2, kind, rank),
                    line_answer("c", 3, kind, rank),
                ])

    def test_a_size_behind_an_array_has_no_kind_and_no_rank(self):
        self.assertEqual(ask(read("in a[3,3]:i128;size n;"), line(1))[1], line_answer("n", 0, 0, 0))

    def test_a_reductions_ranges_are_no_axes(self):
        text = "let a[h<3]:u8=sum(i<3,j<3:1);out b[]:u8=sum(i<3,j<3,k<3:1);"
        self.assertEqual(ask(read(text), line(0), line(1))[1:], [line_answer("a", 2, 0, 1), line_answer("b", 3, 0, 0)])

    def test_names_of_every_byte(self):
        for name in ("ABCDEFGHIJKLMNO", "PQRSTUVWXYZ", "abcdefghijklmno", "pqrstuvwxyz", "_0123456789", "_"):
            self.assertEqual(ask(read("size " + name + ";"), line(0), find(name)),
                             [[0], line_answer(name, 0, 0, 0), [0]])


class FindCall(unittest.TestCase):

    def test_each_line(self):
        told = ask(read(PROGRAM), find("n"), find("first"), find("b_2"), find("C"), find("m"))
        self.assertEqual(told[1:], [[0], [1], [2], [3], [4]])

    def test_what_no_line_has(self):
        for word in ("", "i", "c", "N", "firs", "firstt", "n ", " n", "n;", "b_", "\0", "\xff", "n\0", "b_2[]",
                     "n" * 2000, "\xff" * 2000, " " * 2000):
            self.assertEqual(ask(read(PROGRAM), find(word))[1], [-1], word)

    def test_fixed_words(self):
        for word in FIXED_WORDS + KINDS:
            self.assertEqual(ask(read(PROGRAM), find(word))[1], [-1], word)

    def test_every_byte(self):
        for byte in range(256):
            wanted = {ord("n"): 0, ord("C"): 3, ord("m"): 4}.get(byte, -1)
            self.assertEqual(ask(read(PROGRAM), [3, 1, byte])[1], [wanted])


class TheProgramStays(unittest.TestCase):

    REFUSED = (("size", [-1, 4]), ("$", [-1, 0]), ("size n;size n;", [-2, 12]), ("let a[]:u8=n;", [-3, 11]),
               ("let a[]:u8=a[1];", [-4, 11]), ("size a;size b;size c;size d;size e;size f;size g;size h;size i;", [-5, 61]),
               (" " * 1025, [-6]), ("x" * 2000, [-6]))

    def test_behind_each_refusal(self):
        look = [lines(), line(0), line(1), line(5), find("first"), find("a"), find("n")]
        before = ask(read(PROGRAM), *look)
        for text, told in self.REFUSED:
            self.assertEqual(ask(read(PROGRAM), read(text), *look), [[0], told] + before[1:])

    def test_behind_all_of_them_with_no_program_before(self):
        told = ask(*[read(text) for text, refusal in self.REFUSED], lines(), find("n"), line(0))
        self.assertEqual(told, [refusal for text, refusal in self.REFUSED] + [[0], [-1], [-1]])

    def test_a_taken_text_takes_its_place(self):
        told = ask(read("size n;size m;"), find("m"), read("in m[]:u8;"), find("m"), find("n"), line(0), line(1), lines())
        self.assertEqual(told, [[0], [1], [0], [0], [-1], line_answer("m", 1, 0, 0), [-1], [1]])

    def test_names_of_the_old_program_count_no_more(self):
        self.assertEqual(ask(read("size n;"), read("in a[n]:u8;"), read("size m;in a[m]:u8;"), read("size n;size m;")),
                         [[0], [-3, 5], [0], [0]])


class ManyCalls(unittest.TestCase):

    def test_four_hundred(self):
        calls = []
        wanted = []
        for number in range(100):
            name = "n" + str(number)
            calls += [read("size " + name + ";"), lines(), line(0), find(name)]
            wanted += [[0], [1], line_answer(name, 0, 0, 0), [0]]
        self.assertEqual(ask(*calls), wanted)

    def test_the_same_call_many_times(self):
        self.assertEqual(ask(*[read("size n;")] * 200, *[lines()] * 200), [[0]] * 200 + [[1]] * 200)

    def test_long_texts_in_one_list(self):
        text = "let a[]:u8=" + "+".join(["-" * 20 + "1"] * 16) + ";"
        told = ask(*[read((text + " " * 1024)[:1024])] * 7, *[read("(" * 2000)] * 4)
        self.assertEqual(told, [[0]] * 7 + [[-6]] * 4)


class TheInterface(unittest.TestCase):

    def test_how_answers_are_told(self):
        calls = read("size ab;") + lines() + line(0) + line(1) + find("ab") + find("b") + read("size") + read(" " * 1025)
        self.assertEqual(answers(calls), [1, 0, 1, 1, 7, 0, 2, 97, 98, 0, 0, 0, 1, -1, 1, 0, 1, -1, 2, -1, 4, 1, -6])

    def test_how_texts_are_told(self):
        calls = read("size ab;in c[]:u8;") + line_text(0) + line_text(2) + print_all() + needs(1, 1) + needs(0, 1)
        size = [115, 105, 122, 101, 32, 97, 98, 59]
        array = [105, 110, 32, 99, 91, 93, 58, 117, 56, 59]
        self.assertEqual(answers(calls), [1, 0, 10, 0, 8] + size + [1, -1, 22, 0, 20] + size + [10] + array + [10]
                         + [1, 0, 1, -1])
        self.assertEqual(answers(print_all()), [2, 0, 0])

    def test_numbers_of_a_call_are_no_calls(self):
        self.assertEqual(answers([4, 5, 5]), [1, -1, 2, 0, 0])
        self.assertEqual(answers([6, 5, 5, 5]), [1, -1, 2, 0, 0])
        self.assertEqual(answers([5, 6, 1, 1, 1]), [2, 0, 0, 1, -1, 1, 0])

    def test_each_refusal_of_read(self):
        for text, told in TheProgramStays.REFUSED:
            self.assertEqual(answers(read(text)), [len(told)] + told)

    def test_a_text_of_no_bytes(self):
        self.assertEqual(answers([0, 0]), [1, 0])
        self.assertEqual(answers([3, 0]), [1, -1])

    def test_bytes_of_a_text_are_no_calls(self):
        self.assertEqual(answers([0, 3, 1, 1, 1, 1]), [2, -1, 0, 1, 0])
        self.assertEqual(answers([3, 2, 0, 0, 2, 0]), [1, -1, 1, -1])

    def test_what_is_answered_is_a_list_of_whole_numbers(self):
        calls = read(PROGRAM) + lines() + line(1) + find("C") + read("size") + line(9) + read("size n;size n;")
        calls += line_text(2) + print_all() + needs(3, 1) + needs(1, 3) + needs(0, 0) + line_text(9)
        told = answers(calls)
        self.assertIs(type(told), list)
        self.assertEqual({type(number) for number in told}, {int})

    def test_what_is_handed_in_stays_as_it_was(self):
        calls = read(PROGRAM) + lines() + line(1) + find("C") + read("size") + read(" " * 1025) + line(GREATEST)
        calls += line_text(3) + print_all() + needs(3, 1) + line_text(GREATEST) + needs(GREATEST, GREATEST)
        kept = list(calls)
        answers(calls)
        self.assertEqual(calls, kept)

    def test_what_is_handed_in_is_not_changed_for_a_while_either(self):
        calls = read(PROGRAM) + lines() + line(1) + find("C") + read("size") + find("") + line_text(2) + print_all()
        calls = OnlyRead(calls + needs(3, 1) + line_text(9) + needs(0, 0) + read("") + print_all())
        self.assertEqual(answers(calls), answers(list(calls)))

    def test_nothing_is_kept_from_one_time_to_the_next(self):
        first = answers(read(PROGRAM) + lines())
        self.assertEqual(answers(lines() + line(0) + find("n")), [1, 0, 1, -1, 1, -1])
        self.assertEqual(answers(read(PROGRAM) + lines()), first)
        self.assertEqual(answers(read("in a[n]:u8;")), [2, -3, 5])

    def test_what_was_answered_before_is_not_touched(self):
        first = answers(read(PROGRAM) + line(0))
        kept = list(first)
        second = answers(read("size other;") + line(0))
        self.assertEqual(first, kept)
        second.clear()
        self.assertEqual(answers(read(PROGRAM) + line(0)), kept)

    def test_a_number_that_is_no_call(self):
        for number in (7, 8, -1, GREATEST):
            with self.assertRaises(UnknownCall):
                answers([number])


class OnlyRead(list):
    """A list that complains of each change, however short."""

    def complain(self, *what, **more):
        raise AssertionError("the list that was handed in has been changed")

    append = extend = insert = pop = remove = clear = sort = reverse = complain
    __setitem__ = __delitem__ = __iadd__ = __imul__ = complain


if __name__ == "__main__":
    unittest.main()
