"""What a token is, and each kind of bad one."""

import unittest

from tests.helper import ReadCase

LEAST_BAD = str(2 ** 127)
GREATEST_GOOD = str(2 ** 127 - 1)
SIGN_BYTES = " \t\n\r[](),:;=<+-*/%&|^~"


class Bytes(ReadCase):

    def test_bytes_that_are_no_sign(self):
        for byte in range(256):
            sign = chr(byte)
            if sign in SIGN_BYTES or (sign.isascii() and (sign.isalnum() or sign == "_")):
                continue
            self.refused_at(-1, "size n" + sign + ";", 6)
            self.refused_at(-1, sign, 0)
            self.refused_at(-1, "let a[]:u8=1" + sign + "2;", 12)

    def test_blanks_are_four_bytes(self):
        for byte in (32, 9, 10, 13):
            self.taken("size" + chr(byte) + "n;", 1)
        for byte in (0, 8, 11, 12, 14, 31, 33, 127, 133, 160):
            self.refused_at(-1, "size" + chr(byte) + "n;", 4)

    def test_a_bad_token_behind_an_earlier_fault(self):
        self.refused(-1, "size ¤[ $;")
        self.refused(-1, "size n ¤>;")


class Signs(ReadCase):

    def test_greater_by_itself(self):
        self.value_refused("1¤>2;")
        self.value_refused("1¤>=2;")
        self.value_refused("1>>¤>2;")
        self.value_refused("1¤> >2;")

    def test_the_longest_sign_first(self):
        self.value_refused("1<<¤=2;")
        self.value_refused("1<<¤<2;")
        self.value_refused("1<=¤=2;")
        self.value_refused("1==¤=2;")
        self.value_refused("1¤=<2;")
        self.value_refused("1<¤>2;")
        self.refused(-1, "let a[]:u8¤==1;")
        self.refused(-1, "let a[i¤<=3]:u8=1;")
        self.refused(-1, "let a[i¤<<3]:u8=1;")
        self.refused(-1, "let a[i< ¤=3]:u8=1;")

    def test_signs_with_a_blank_within_are_two(self):
        self.value_refused("1< ¤<2;")
        self.value_refused("1< ¤=2;")
        self.value_refused("1¤= =2;")
        self.refused(-1, "let a[]:u8= ¤=1;")

    def test_three_in_front_and_between(self):
        self.value_taken("1---2")
        self.value_taken("1<<~2")
        self.value_refused("1+¤+2;")


class Numbers(ReadCase):

    def test_the_greatest_and_one_beyond(self):
        self.value_taken(GREATEST_GOOD)
        self.value_refused("¤" + LEAST_BAD + ";")
        self.refused(-1, "in a[¤" + LEAST_BAD + "]:u8;")
        self.refused(-1, "let a[i<¤" + LEAST_BAD + "]:u8=1;")
        self.value_refused("¤" + "9" * 39 + ";")

    def test_zeros_before(self):
        self.value_taken("0")
        self.value_taken("000")
        self.value_taken("0" * 900 + GREATEST_GOOD)
        self.value_refused("¤" + "0" * 900 + LEAST_BAD + ";")
        self.value_taken("0" * 1000)

    def test_a_number_as_long_as_the_text(self):
        self.refused_at(-1, "9" * 1024, 0)
        self.value_refused("¤" + "9" * 1000 + ";")

    def test_a_number_ends_where_its_digits_end(self):
        self.value_refused("12¤a;")
        self.value_refused("1¤_;")
        self.value_refused("1 ¤2;")
        self.refused(-1, "size ¤9n;")
        self.value_refused("0¤x10;")


class Words(ReadCase):

    def test_a_name_of_fifteen_bytes_and_one_of_sixteen(self):
        self.taken("size abcdefghijklmno;", 1)
        self.taken("size _23456789012345;", 1)
        self.refused(-1, "size ¤abcdefghijklmnop;")
        self.refused(-1, "size ¤_234567890123456;")
        self.value_refused("¤abcdefghijklmnop;")
        self.value_refused("1+¤" + "a" * 900 + ";")

    def test_a_fixed_word_is_no_name(self):
        for word in ("size", "in", "let", "out", "if", "sum", "product", "least", "greatest", "min", "max", "abs",
                     "quo", "rem", "high", "rotl", "ones", "lead", "trail", "u8", "i8", "u16", "i16", "u32", "i32",
                     "u64", "i64", "i128"):
            self.refused(-1, "size ¤" + word + ";")
            self.refused(-1, "in ¤" + word + "[]:u8;")
            self.refused(-1, "let a[¤" + word + "<3]:u8=1;")
            self.refused(-1, "in a[¤" + word + "]:u8;")

    def test_a_word_is_its_longest_run(self):
        self.refused(-1, "¤sizen;")
        self.refused(-1, "in a[]:¤u8u8;")
        self.refused(-1, "in a[]:¤u88;")
        self.taken("size _size;", 1)
        self.taken("size\nn;", 1)

    def test_capitals_are_other_letters(self):
        self.refused(-1, "¤Size n;")
        self.refused(-1, "in a[]:¤U8;")
        self.taken("size n;size N;", 2)


if __name__ == "__main__":
    unittest.main()
