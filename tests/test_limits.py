"""Each limit at its last allowed place and one beyond."""

import itertools
import unittest

from axisprograms.programs import answers
from tests.helper import (BEFORE_VALUE, ROWS, ReadCase, answers_with_few_calls_within_one_another, ask, lines, read,
                          row)

# What opens something within a value, with what closes it behind a number; words open with their parenthesis.
OPENERS = {
    "(": ")", "-": "", "~": "", "x[": "]", "x[0,1,2,": "]", "abs(": ")", "ones(": ")", "lead(": ")", "trail(": ")",
    "min(": ",1)", "max(1,": ")", "quo(": ",1)", "rem(1,": ")", "high(": ",1)", "rotl(1,": ")", "if(": ",1,1)",
    "if(1,": ",1)", "if(1,1,": ")", "sum(i<3:": ")", "product(i<3,j<3:": ")", "least(i<3:": ")", "greatest(i<3:": ")",
}
# The token of each opener that can't stand with 20 open; of an array's it is the bracket behind the name.
TOO_DEEP = ("(", "-", "~", "abs", "ones", "lead", "trail", "min", "max", "quo", "rem", "high", "rotl", "if", "sum",
            "product", "least", "greatest")


class TextLength(ReadCase):

    def test_1024_and_1025_bytes(self):
        self.taken("size n;" + " " * 1017, 1)
        told = ask(read("size n;"), read("size n;size m;" + " " * 1011), lines())
        self.assertEqual(told, [[0], [-6], [1]])

    def test_too_long_comes_before_all_else(self):
        for text in ("$" * 1025, "size n;size n;" + " " * 1500, "(" * 2000, " " * 2000, "9" * 1025):
            self.assertEqual(ask(read("size n;"), read(text), lines()), [[0], [-6], [1]])

    def test_a_fault_at_the_last_byte(self):
        self.refused_at(-1, " " * 1023 + "$", 1023)
        self.refused_at(-1, "size" + " " * 1020, 1024)


class AxisCounts(ReadCase):

    def test_bounds(self):
        self.taken("in a[1,2,3,4]:u8;", 1)
        self.refused(-1, "in a[1,2,3,4¤,5]:u8;")

    def test_ranges_of_a_line(self):
        for word in ("let", "out"):
            self.taken(word + " a[i<1,j<2,k<3,l<4]:u8=1;", 1)
            self.refused(-1, word + " a[i<1,j<2,k<3,l<4¤,m<5]:u8=1;")

    def test_ranges_of_a_reduction(self):
        for word in ("sum", "product", "least", "greatest"):
            self.value_taken(word + "(i<1,j<2,k<3,l<4:1)")
            self.value_refused(word + "(i<1,j<2,k<3,l<4¤,m<5:1);")

    def test_each_row_is_counted_by_itself(self):
        self.taken("let a[i<1,j<2,k<3,l<4]:u8=sum(m<1,n<2,o<3,p<4:sum(q<1,r<2,s<3,t<4:a[1,2,3,4]))+sum(m<1,n<2:1);", 1)
        self.taken("in a[1,2,3,4]:u8;in b[1,2,3,4]:u8;", 2)
        self.refused(-1, "in a[1]:u8;in b[1,2,3,4¤,5]:u8;")

    def test_values_in_brackets(self):
        self.taken("in a[1,2,3,4]:u8;let b[]:u8=a[1,2,3,4];", 2)
        self.refused(-1, "in a[1,2,3,4]:u8;let b[]:u8=a[1,2,3,4¤,5];")
        self.refused(-1, "let b[]:u8=a[b[1,2,3,4],2,min(3,3),4¤,5];")


class RowLengths(ReadCase):

    def test_sixteen_and_seventeen_on_each_level(self):
        for operators in ROWS:
            self.value_taken(row(operators, 16))
            for operator in operators:
                self.value_refused(row(operators, 16) + "¤" + operator + "3;")
                self.value_refused(row((operator,), 16) + "¤" + operator + "3;")

    def test_a_first_operand_that_is_a_row_of_the_same_level(self):
        for operators in ROWS:
            for inner in range(2, 17):
                first = "(" + row(operators, inner) + ")"
                whole = row(operators, 17 - inner, first)
                self.value_taken(whole)
                for operator in operators:
                    self.value_refused(whole + "¤" + operator + "3;")

    def test_through_more_parentheses(self):
        for operators in ROWS:
            full = "(((" + row(operators, 16) + ")))"
            self.value_taken(full)
            self.value_refused(full + "¤" + operators[-1] + "3;")
            nested = "1"
            for number in range(9):
                nested = "((" + nested + ")" + operators[number % len(operators)] + "2)"
            nested = row(operators, 7, nested)
            self.value_taken(nested)
            self.value_refused(nested + "¤" + operators[0] + "3;")

    def test_blanks_in_the_parentheses_are_nothing(self):
        self.value_refused("( ( " + row(("+",), 16) + " ) ) ¤- 3;")

    def test_other_first_operands_count_one(self):
        for operators in ROWS:
            full = row(operators, 16)
            for first in ("-(" + full + ")", "~(" + full + ")", "abs(" + full + ")", "min(1," + full + ")",
                          "sum(i<3:" + full + ")", "(-(" + full + "))", "(1<" + full + ")", "(" + full + "==1)"):
                self.value_taken(row(operators, 16, first))
                self.value_refused(row(operators, 16, first) + "¤" + operators[0] + "3;")
            self.taken("in a[1]:u8;let b[]:u8=" + row(operators, 16, "a[" + full + "]") + ";", 2)

    def test_a_row_of_another_level_counts_one(self):
        for one, other in itertools.permutations(ROWS, 2):
            first = "(" + row(one, 16) + ")"
            self.value_taken(row(other, 16, first))
            self.value_refused(row(other, 16, first) + "¤" + other[0] + "3;")

    def test_further_operands_count_one(self):
        for operators in ROWS:
            full = "(" + row(operators, 16) + ")"
            whole = row(operators, 15) + operators[0] + full
            self.value_taken(whole)
            self.value_refused(whole + "¤" + operators[0] + "3;")
            self.value_taken("1" + operators[0] + full + operators[0] + full)

    def test_the_first_of_a_tighter_row_within(self):
        for loose, tight in itertools.combinations(ROWS, 2):
            full = "(" + row(tight, 16) + ")"
            self.value_taken("1" + loose[0] + full)
            self.value_refused("1" + loose[0] + full + "¤" + tight[0] + "3;")
            self.value_taken("1" + loose[0] + full + loose[0] + "3")
            # Here the full row in parentheses is the last of a tighter one, not the first of the looser one.
            inner = "(" + row(loose, 16) + ")"
            self.value_taken(row(loose, 16, "1" + tight[0] + inner))

    def test_rows_begin_anew(self):
        for operators in ROWS:
            full = row(operators, 16)
            self.value_taken(full + "<" + full)
            self.value_refused(full + "<" + full + "¤" + operators[0] + "3;")
            self.value_refused(full + "¤" + operators[0] + "3<1;")
            self.value_taken("min(" + full + "," + full + ")")
            self.value_taken("(" + full + ")<(" + full + ")")
        self.value_taken(row(("+",), 16, row(("*",), 16)))
        self.value_taken(row(("+",), 15) + "+" + row(("*",), 16))
        self.value_refused(row(("+",), 15) + "+" + row(("*",), 16) + "¤+3;")
        self.value_taken("+".join([row(("*",), 16)] * 16))

    def test_a_first_operand_behind_a_comparison(self):
        for operators in ROWS:
            for comparison in ("<", "<=", "=="):
                whole = "1" + comparison + row(operators, 2, "(" + row(operators, 15) + ")")
                self.value_taken(whole)
                self.value_refused(whole + "¤" + operators[0] + "3;")

    def test_operands_of_each_form(self):
        for operators in ROWS:
            full = "(" + row(operators, 16) + ")"
            for operand in ("n", "-n", "a[]", "~a[]", "abs(1)", "sum(i<3:i)", "(n)", "((a[]))"):
                before = "size n;in a[]:u8;let x[]:u8="
                sixteen = operators[0].join([operand] * 16)
                self.taken(before + sixteen + ";", 3)
                self.refused(-1, before + sixteen + "¤" + operators[0] + "1;")
                # What stood before it is forgotten: the operand is the first of a row of its own.
                self.taken(before + full + "<" + operand + operators[0] + "1;", 3)
                self.taken(before + "min(" + full + "," + operand + operators[0] + "1);", 3)

    def test_comparisons_are_no_rows(self):
        self.value_taken("(((1<2)<3)<4)<5")
        self.value_taken("((((((((((((((((((1<1)<1)<1)<1)<1)<1)<1)<1)<1)<1)<1)<1)<1)<1)<1)<1)<1)<1)<1")
        self.value_refused("1<2¤<3;")
        self.value_refused("(1<2)==3¤<=4;")

    def test_a_seventeenth_before_other_faults(self):
        self.value_refused(row(("+",), 16) + "¤+$;")
        self.value_refused(row(("+",), 16) + "¤+")


def opened(openers, inner="1"):
    closers = [OPENERS[opener] for opener in reversed(openers)]
    return "".join(openers) + inner + "".join(closers)


class Nesting(ReadCase):

    def deep_taken(self, openers, inner="1"):
        """Reductions in one another declare one index twice, so only the grammar is asked."""
        text = BEFORE_VALUE + opened(openers, inner) + ";"
        self.assertNotEqual(ask(read(text))[0][0], -1, text)
        self.assertLessEqual(len(text), 1024)

    def deep_refused(self, openers, marked):
        self.value_refused("".join(openers) + marked)

    def test_twenty_and_twenty_one_of_each(self):
        for opener in OPENERS:
            self.deep_taken([opener] * 20)
            self.deep_taken([opener] * 20, "x")
            for token in TOO_DEEP:
                self.deep_refused([opener] * 20, "¤" + token + "(1)")
            self.deep_refused([opener] * 20, "x¤[1]")
            self.deep_refused([opener] * 20, "1+¤-1" if opener not in "-~" else "¤-1")

    def test_every_mixture_of_two(self):
        for one, other in itertools.permutations(OPENERS, 2):
            for first in (1, 10, 19):
                openers = [one] * first + [other] * (20 - first)
                self.deep_taken(openers)
                self.deep_refused(openers, "¤(1)")
                self.deep_refused(openers, "x¤[1]")
                self.deep_refused(openers, "¤abs(1)")
                self.deep_refused(openers, "¤-1")

    def test_all_mixed(self):
        names = list(OPENERS)
        for turn in range(len(names)):
            openers = (names[turn:] + names[:turn])[:20]
            self.deep_taken(openers)
            for token in TOO_DEEP:
                self.deep_refused(openers, "¤" + token)

    def test_nineteen_leave_room_for_one(self):
        for opener in OPENERS:
            for last in OPENERS:
                self.deep_taken([opener] * 19 + [last])

    def test_a_sign_in_front_is_open_up_to_its_operands_end(self):
        self.value_taken("-" * 20 + "1")
        self.value_taken("-" * 20 + "1" + "+" + "~" * 20 + "1")
        self.value_taken("+".join(["-" * 20 + "1"] * 16))
        self.value_taken("-" * 20 + "1<" + "-" * 20 + "1")
        self.value_taken("(" * 19 + "-1" + ")" * 19)
        self.value_taken("(" * 19 + "-1--1*-1" + ")" * 19)
        self.value_taken("-" * 10 + "(" * 10 + "1" + ")" * 10 + "-" + "-" * 20 + "1")
        self.value_taken("-(1)+" + "(" * 20 + "1" + ")" * 20)
        self.value_refused("-" * 20 + "¤-1;")
        self.value_refused("1-" + "-" * 20 + "¤-1;")
        self.value_refused("-" * 10 + "(" * 10 + "1+¤(1);")

    def test_signs_in_front_of_arrays(self):
        self.taken("in a[1]:u8;let b[]:u8=" + "-" * 19 + "a[1];", 2)
        self.refused(-1, "in a[1]:u8;let b[]:u8=" + "-" * 20 + "a¤[1];")
        self.taken("in a[1]:u8;let b[]:u8=" + "-" * 18 + "a[-1];", 2)
        self.refused(-1, "in a[1]:u8;let b[]:u8=" + "-" * 19 + "a[¤-1];")

    def test_what_is_closed_is_no_longer_open(self):
        self.value_taken("(" * 20 + "1" + ")" * 20 + "+" + "(" * 20 + "1" + ")" * 20)
        self.value_taken("(" * 19 + "(1)+(1)+abs(1)-1" + ")" * 19)
        self.value_taken("min(" + "(" * 19 + "1" + ")" * 19 + "," + "-" * 19 + "1)")
        self.value_taken("sum(i<3:" + "(" * 19 + "i" + ")" * 19 + ")*" + "abs(" * 20 + "1" + ")" * 20)
        self.taken("let a[]:u8=" + "(" * 20 + "1" + ")" * 20 + ";let b[]:u8=" + "-" * 20 + "1;", 2)
        self.taken("in c[]:u8;let a[]:u8=" + "(" * 19 + "c[]+c[]" + ")" * 19 + "+c[];", 2)

    def test_what_is_closed_leaves_room_for_just_twenty(self):
        before = "size n;in c[]:u8;in a[1]:u8;let x[]:u8="
        for closed in ("-1", "--1", "~n", "-n", "-c[]", "-a[-1]", "(1)", "(-n)", "c[]", "a[1]", "a[n]", "abs(n)",
                       "min(-1,-n)", "if(1,n,(1))", "sum(i<3:-i)", "-sum(i<n,j<3:(i))", "-(-(-1))"):
            for first in (closed, closed + "-" + closed + "*" + closed, closed + "<" + closed):
                for opener in "(", "-":
                    deep = before + first + "+" + opener * 20
                    self.taken(deep + "1" + (")" * 20 if opener == "(" else "") + ";", 4)
                    self.refused(-1, deep + "¤(1)")
                    self.refused(-1, deep + "¤-1")
                    self.refused(-1, deep + "c¤[]")

    def test_a_lines_own_brackets_are_not_within_a_value(self):
        self.taken("let a[i<3]:u8=" + "(" * 20 + "i" + ")" * 20 + ";", 1)

    def test_an_empty_bracket_counts_too(self):
        self.taken("in c[]:u8;let a[]:u8=" + "(" * 19 + "c[]" + ")" * 19 + ";", 2)
        self.refused(-1, "in c[]:u8;let a[]:u8=" + "(" * 20 + "c¤[]")

    def test_a_word_whose_parenthesis_could_not_stand(self):
        for word in TOO_DEEP[3:]:
            self.value_refused("(" * 20 + "¤" + word)
            self.value_refused("(" * 20 + "1+¤" + word + "(1)")
            self.value_refused("(" * 19 + word + "¤")
        self.value_taken("(" * 19 + "abs(1)" + ")" * 19)


class NearTheLongestText(ReadCase):

    def test_nothing_is_raised(self):
        for opener in OPENERS:
            for filler in ("", "x", "1", "1+"):
                text = (BEFORE_VALUE + (opener + filler) * 1024)[:1024]
                self.assertEqual(ask(read(text))[0][0], -1)
        for text in ("(" * 1024, "-" * 1024, "[" * 1024, ")" * 1024, "if" * 512, "if(" * 341, "a" * 1024, "size" * 256):
            self.refused_at(-1, text, 0)

    def test_long_values(self):
        tight = "+".join(["*".join(["1"] * 16)] * 16)
        self.value_taken(tight)
        self.value_taken("|".join(["^".join(["&".join(["1"] * 7)] * 8)] * 9))
        self.value_refused("1+" * 15 + "1¤" + "+1" * 480)
        self.value_refused("(1+" * 20 + "¤(1+" + "(1+" * 200)

    def test_deep_and_long(self):
        rows = "1"
        for number in range(20):
            # By turns of two levels, so that no row is the first operand of its like.
            rows = "(" + rows + ("+1", "*1")[number % 2] * 15 + ")"
        self.value_taken(rows)
        self.value_taken("(" * 15 + "1" + "+1)" * 15)
        self.value_refused("(" * 16 + "1" + "+1)" * 15 + "¤+1)")
        self.value_taken("(" * 20 + "1" + ")+1" * 15 + ")" * 5)
        self.value_taken("(1+" * 20 + "1" * 30 + ")" * 20)
        self.value_taken("-" * 20 + "1" + "".join(["+" + "-" * 20 + "1"] * 15))

    def test_what_is_nested_is_gone_through_by_loops(self):
        texts = [BEFORE_VALUE + opened([opener] * 20) + ";" for opener in OPENERS]
        calls = [number for text in texts for number in read(text)]
        # A value of 20 within one another needs no more calls within one another than a flat one.
        self.assertEqual(answers_with_few_calls_within_one_another(calls), answers(calls))

    def test_many_lines(self):
        text = "".join(["size n" + str(number) + ";" for number in range(120)])[:1024]
        self.assertEqual(ask(read(text[:text.rindex(";") + 1]))[0][0], -5)


if __name__ == "__main__":
    unittest.main()
