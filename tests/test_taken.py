"""Texts that are programs with nothing wrong."""

import unittest

from tests.helper import KINDS, ReadCase, answer_to_read, ask, line, read


class TakenPrograms(ReadCase):

    def test_no_lines(self):
        self.taken("", 0)

    def test_only_blanks(self):
        for text in (" ", "\t", "\n", "\r", " \t\r\n\n  "):
            self.taken(text, 0)

    def test_each_line_word(self):
        self.taken("size n;", 1)
        self.taken("in a[]:u8;", 1)
        self.taken("let a[]:u8=0;", 1)
        self.taken("out a[]:u8=0;", 1)

    def test_lines_in_any_order(self):
        parts = ["size n;", "in a[n]:u8;", "let b[i<n]:i16=a[i]+c[i];", "out c[i<n]:i16=b[i]-n;"]
        for first in range(4):
            turned = parts[first:] + parts[:first]
            self.taken("".join(turned), 4)
            self.taken("\n".join(reversed(turned)), 4)

    def test_each_kind(self):
        for number, kind in enumerate(KINDS):
            for text in ("in a[3]:" + kind + ";", "let a[i<3]:" + kind + "=i;", "out a[i<3]:" + kind + "=i;"):
                self.assertEqual(ask(read(text), line(0))[1][-2:], [number, 1], text)

    def test_bounds_are_numbers_and_sizes(self):
        self.taken("size n;in a[0,n,00012,n]:u8;", 2)
        self.taken("size n;let a[i<0,j<n]:u8=i+j;", 2)
        self.taken("in a[170141183460469231731687303715884105727]:u8;", 1)

    def test_each_sign_between_values(self):
        for sign in ("<", "<=", "==", "|", "^", "&", "<<", ">>", "+", "-", "*", "/", "%"):
            self.value_taken("1" + sign + "2")
            self.value_taken("1 " + sign + " 2")

    def test_signs_in_front(self):
        for value in ("-1", "~1", "--1", "~-~1", "1--1", "1+~1", "-(1)", "1*-2", "1<-2", "1<<-2"):
            self.value_taken(value)

    def test_each_word_with_values(self):
        for word in ("abs", "ones", "lead", "trail"):
            self.value_taken(word + "(1)")
        for word in ("min", "max", "quo", "rem", "high", "rotl"):
            self.value_taken(word + "(1,2)")
        self.value_taken("if(1,2,3)")
        self.value_taken("if(1<2,3==4,(5<=6))")

    def test_each_reduction(self):
        for word in ("sum", "product", "least", "greatest"):
            self.value_taken(word + "(i<3:i)")
            self.value_taken(word + "(i<3,j<4,k<5,l<6:i<j)")

    def test_arrays_of_each_rank(self):
        for rank in range(5):
            bounds = ",".join(["2"] * rank)
            values = ",".join(["1+1"] * rank)
            self.taken("in a[" + bounds + "]:u8;let b[]:u8=a[" + values + "];", 2)

    def test_an_array_may_name_itself(self):
        self.taken("let a[i<9]:u8=if(i<1,1,a[i-1]);", 1)

    def test_comparisons_in_parentheses(self):
        for value in ("(1<2)<3", "1<(2<3)", "((1<2))==((3<=4))", "(1==2)+3"):
            self.value_taken(value)

    def test_every_level_in_one_value(self):
        self.value_taken("1|2^3&4<<5+6*-7 == ~8/9-10>>11&12^13|14%15")

    def test_blanks_between_all_tokens(self):
        tokens = ("let a [ i < n , j < 3 ] : i128 = sum ( k < n : b [ i , k ] * - c [ ] ) << 2 == min ( i , ~ j ) ; "
                  "size n ; in b [ n , 7 ] : u8 ; in c [ ] : i64 ;")
        for blank in (" ", "\t", "\n", "\r", "  \n"):
            self.taken(tokens.replace(" ", blank), 4)
        tight = "".join(tokens.split(" "))
        for word in ("let", "size", "in"):
            tight = tight.replace(";" + word, ";" + word + " ")
        self.taken(tight.replace("leta", "let a"), 4)

    def test_blanks_around(self):
        self.taken(" \n size n ; \t ", 1)

    def test_names_like_fixed_words(self):
        for name in ("sizes", "Size", "SIZE", "in_", "_", "__", "_9", "u128", "i16_", "u", "lets", "Abs", "z9_Z"):
            self.taken("size " + name + ";", 1)

    def test_answer_is_the_zero_alone(self):
        self.assertEqual(answer_to_read("size n;"), [0])


if __name__ == "__main__":
    unittest.main()
