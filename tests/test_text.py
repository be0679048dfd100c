"""The call text: the printed form of each kind of line, but for its parentheses."""

import itertools
import unittest

from tests.helper import (BEFORE_VALUE, KINDS, PrintCase, ask, counted, line_text, printed_lines, printed_program, read,
                          told_text)

GREATEST = 9223372036854775807
GREATEST_NUMBER = str(2 ** 127 - 1)
BLANKS = (" ", "\t", "\n", "\r", "  ", " \t\r\n", "\r\n\r\n \t ")
SIZES = "size n;size mm;size _0;size Size;"
BOUNDS = ("n", "3", "mm", "0")
INDICES = ("i", "jj", "_k", "L")


def kept_apart(tokens):
    """The tokens with just the blanks that they need."""
    text = ""
    for token in tokens:
        needed = text[-1:].isalnum() or text[-1:] == "_"
        text += " " + token if needed and (token[0].isalnum() or token[0] == "_") else token
    return text


class EachKindOfLine(PrintCase):

    def line_printed(self, tokens, wanted):
        """However the tokens are kept apart, what is printed is the same."""
        texts = [blank + blank.join(tokens) + blank for blank in BLANKS]
        texts += [kept_apart(tokens), " ".join(tokens), wanted]
        for text in texts:
            self.assertEqual(printed_lines(SIZES + text)[4], wanted, text)
            self.assertEqual(printed_lines(text + SIZES)[0], wanted, text)

    def rows_of(self, parts):
        for length in range(5):
            for row in itertools.product(parts, repeat=length):
                yield row

    def test_sizes(self):
        for name in ("a", "_", "Z9_", "abcdefghijklmno", "sizes", "percent", "number", "name", "kind"):
            self.line_printed(["size", name, ";"], "size " + name + ";")

    def test_in_lines(self):
        for bounds in self.rows_of(("n", "3")):
            row = ",".join(bounds)
            self.line_printed(["in", "a", "[", *self.split(row), "]", ":", "u8", ";"], "in a[" + row + "]:u8;")

    def test_bounds_of_every_sort(self):
        for length in range(5):
            bounds = ",".join(BOUNDS[:length])
            self.line_printed(["in", "a", "[", *self.split(bounds), "]", ":", "i8", ";"], "in a[" + bounds + "]:i8;")

    def test_let_and_out_lines(self):
        for word in ("let", "out"):
            for bounds in self.rows_of(("n", "30")):
                ranges = ",".join([name + "<" + bound for name, bound in zip(INDICES, bounds)])
                tokens = [word, "a", "[", *self.split(ranges), "]", ":", "u8", "=", "1", ";"]
                self.line_printed(tokens, word + " a[" + ranges + "]:u8=1;")

    def split(self, row):
        return [part for part in row.replace(",", " , ").replace("<", " < ").split(" ") if part]

    def test_every_kind(self):
        for kind in KINDS:
            self.line_printed(["in", "a", "[", "]", ":", kind, ";"], "in a[]:" + kind + ";")
            for word in ("let", "out"):
                self.line_printed([word, "a", "[", "]", ":", kind, "=", "0", ";"], word + " a[]:" + kind + "=0;")

    def test_a_line_of_every_token(self):
        tokens = ("out a [ i < n , jj < 7 ] : i128 = if ( i < jj , a [ i - 1 , - jj ] , ~ n ) == 5 ;").split(" ")
        self.line_printed(tokens, "out a[i<n,jj<7]:i128=if(i<jj,a[i-1,-jj],~n)==5;")
        tokens = ("let a [ ] : u8 = sum ( i < n , jj < 007 : i * jj / n % 4 + 5 - 6 << 7 >> 8 & 9 ^ 10 | 11 ) "
                  "<= greatest ( i < n : least ( jj < 4 : product ( k < 5 : k ) ) ) ;").split(" ")
        self.line_printed(tokens, "let a[]:u8=sum(i<n,jj<7:i*jj/n%4+5-6<<7>>8&9^10|11)"
                                  "<=greatest(i<n:least(jj<4:product(k<5:k)));")
        tokens = "let a [ ] : u8 = abs ( ones ( lead ( trail ( 1 ) ) ) ) < min ( 1 , max ( 2 , 3 ) ) ;".split(" ")
        self.line_printed(tokens, "let a[]:u8=abs(ones(lead(trail(1))))<min(1,max(2,3));")
        tokens = "let a [ ] : u8 = quo ( 1 , rem ( 2 , high ( 3 , rotl ( 4 , 5 ) ) ) ) ;".split(" ")
        self.line_printed(tokens, "let a[]:u8=quo(1,rem(2,high(3,rotl(4,5))));")

    def test_each_sign_between_values(self):
        for sign in ("<", "<=", "==", "|", "^", "&", "<<", ">>", "+", "-", "*", "/", "%"):
            self.line_printed(["let", "a", "[", "]", ":", "u8", "=", "n", sign, "1", ";"], "let a[]:u8=n" + sign + "1;")
            for front in ("-", "~"):
                tokens = ["let", "a", "[", "]", ":", "u8", "=", front, "n", sign, front, "1", ";"]
                self.line_printed(tokens, "let a[]:u8=" + front + "n" + sign + front + "1;")

    def test_each_element(self):
        for rank in range(5):
            bounds = ",".join(["n"] * rank)
            values = ",".join(["n", "1", "-2", "mm+3"][:rank])
            text = "in a[" + bounds + "]:u8;let b[]:u8=a[" + values + "];"
            self.assertEqual(printed_lines(SIZES + text)[5], "let b[]:u8=a[" + values + "];")
            spread = text.replace("a[", " a [ ").replace(",", " , ").replace("]", " ] ").replace("-", " - ")
            self.assertEqual(printed_lines(SIZES + spread)[5], "let b[]:u8=a[" + values + "];")


class Numbers(PrintCase):

    NUMBERS = (("0", "0"), ("000", "0"), ("007", "7"), ("7", "7"), ("700", "700"), ("00700", "700"), ("010", "10"),
               (GREATEST_NUMBER, GREATEST_NUMBER), ("0" + GREATEST_NUMBER, GREATEST_NUMBER),
               ("0" * 300 + GREATEST_NUMBER, GREATEST_NUMBER), ("0" * 700, "0"), ("0" * 700 + "1", "1"))

    def test_in_bounds(self):
        for written, wanted in self.NUMBERS:
            self.assertEqual(printed_lines("in a[" + written + "]:u8;"), ["in a[" + wanted + "]:u8;"])
            self.assertEqual(printed_lines("in a[1,2," + written + ",4]:u8;"), ["in a[1,2," + wanted + ",4]:u8;"])
            for word in ("let", "out"):
                self.assertEqual(printed_lines(word + " a[i<" + written + ",j<3]:u8=i;"),
                                 [word + " a[i<" + wanted + ",j<3]:u8=i;"])

    def test_in_bounds_of_reductions(self):
        for word in ("sum", "product", "least", "greatest"):
            for written, wanted in self.NUMBERS:
                self.value_printed(word + "(i<" + written + ":i)", word + "(i<" + wanted + ":i)")
                self.value_printed(word + "(i<1,j<" + written + ":i)", word + "(i<1,j<" + wanted + ":i)")

    def test_in_values(self):
        for written, wanted in self.NUMBERS:
            for form in ("{}", "-{}", "~{}", "e[{}]", "g[{},1]", "g[1,{}]", "abs({})", "min({},1)", "min(1,{})",
                         "if({},1,1)", "if(1,{},1)", "if(1,1,{})", "sum(i<3:{})", "{}+1", "1+{}", "{}<1", "1<{}",
                         "1%{}", "{}<<1"):
                self.value_printed(form.format(written), form.format(wanted))

    def test_in_parentheses(self):
        for written, wanted in self.NUMBERS:
            self.value_printed("((" + written + "))", wanted)

    def test_digits_of_names_are_no_numbers(self):
        wanted = ["size a00;", "size _007;", "in b[a00]:u8;", "let c[i<_007]:u8=i+a00;"]
        self.assertEqual(printed_lines("".join(wanted)), wanted)

    def test_every_digit(self):
        self.value_printed("01234567890", "1234567890")
        for digit in "0123456789":
            self.value_printed("0" + digit, digit)
            self.value_printed("1" + digit, "1" + digit)
            self.value_printed("01" + digit + "0", "1" + digit + "0")


class WhichLine(unittest.TestCase):

    PROGRAM = "let a[]:u8=(1);\nsize\tn;in b[ n ]:u8;\r\nout c[]:i64=a[];"
    WANTED = ("let a[]:u8=1;", "size n;", "in b[n]:u8;", "out c[]:i64=a[];")

    def test_each_line(self):
        told = ask(read(self.PROGRAM), line_text(0), line_text(1), line_text(2), line_text(3))
        self.assertEqual(told, [[0]] + [[0] + counted(wanted) for wanted in self.WANTED])

    def test_in_any_order_and_again(self):
        for numbers in itertools.permutations(range(4)):
            told = ask(read(self.PROGRAM), *[line_text(number) for number in numbers * 2])
            self.assertEqual([told_text(answer) for answer in told[1:]], [self.WANTED[number] for number in numbers * 2])

    def test_the_last_line_and_beyond(self):
        told = ask(read(self.PROGRAM), line_text(3), line_text(4), line_text(5), line_text(GREATEST - 1),
                   line_text(GREATEST))
        self.assertEqual(told[1:], [[0] + counted(self.WANTED[3]), [-1], [-1], [-1], [-1]])

    def test_before_any_read(self):
        self.assertEqual(ask(line_text(0), line_text(1), line_text(GREATEST)), [[-1], [-1], [-1]])

    def test_of_the_program_of_no_lines(self):
        self.assertEqual(ask(read(self.PROGRAM), read(" "), line_text(0))[2], [-1])

    def test_behind_a_refused_read(self):
        for refused in ("size", "size n;size n;", "let a[]:u8=q;", "let a[]:u8=a[1];", " " * 1025):
            told = ask(read(self.PROGRAM), read(refused), line_text(0), line_text(3), line_text(4))
            self.assertEqual(told[2:], [[0] + counted(self.WANTED[0]), [0] + counted(self.WANTED[3]), [-1]])

    def test_behind_another_read(self):
        told = ask(read(self.PROGRAM), line_text(0), read("size m;"), line_text(0), line_text(1))
        self.assertEqual(told[3:], [[0] + counted("size m;"), [-1]])

    def test_most_lines(self):
        sizes = ["size s{};".format(number) for number in range(8)]
        arrays = ["in a{}[s{}]:u8;".format(number, number % 8) for number in range(16)]
        program = sizes + arrays
        self.assertEqual(printed_lines(" ".join(program)), program)
        self.assertEqual(printed_lines("\n".join(reversed(program))), program[::-1])

    def test_text_is_what_print_has_of_it(self):
        whole = printed_program(self.PROGRAM)
        self.assertEqual(whole, "".join([text + "\n" for text in printed_lines(self.PROGRAM)]))


class OneBlank(unittest.TestCase):

    def test_just_one_behind_the_lines_word(self):
        for text in ("size n;", "in n[]:u8;", "let n[]:u8=1;", "out n[]:u8=1;"):
            for blank in BLANKS:
                self.assertEqual(printed_lines(text.replace(" ", blank)), [text])

    def test_signs_that_stand_together_stay_apart(self):
        self.assertEqual(printed_lines(BEFORE_VALUE + "1 - - - 2;"), [BEFORE_VALUE + "1---2;"])
        self.assertEqual(printed_lines(BEFORE_VALUE + "1 << - ~ 2;"), [BEFORE_VALUE + "1<<-~2;"])
        self.assertEqual(printed_lines("let x [ i < 3 ] : u8 = - i < - 1 ;"), ["let x[i<3]:u8=-i<-1;"])


if __name__ == "__main__":
    unittest.main()
