"""Texts that are no program: the fault is at the first token that can't stand, or at the text's length."""

import unittest

from tests.helper import FIXED_WORDS, KINDS, SIGNS, ReadCase, answer_to_read

OPERATORS = "< <= == | ^ & << >> + - * / %"
VALUE_BEGINS = ("number name ( - ~ abs ones lead trail min max quo rem high rotl if sum product least greatest")

# Behind each of these texts just the tokens that are told can stand.
WHAT_CAN_STAND = {
    "": "size in let out",
    "size n;": "size in let out",
    "in a[]:u8;": "size in let out",
    "let a[]:u8=1;": "size in let out",
    "size": "name",
    "size n": ";",
    "in": "name",
    "let": "name",
    "out": "name",
    "in a": "[",
    "let a": "[",
    "out a": "[",
    "in a[": "number name ]",
    "in a[3": ", ]",
    "in a[n": ", ]",
    "in a[3,": "number name",
    "in a[1,2,3": ", ]",
    "in a[1,2,3,4": "]",
    "in a[1,2,3,n": "]",
    "in a[]": ":",
    "in a[3]": ":",
    "in a[]:": "kind",
    "in a[]:u8": ";",
    "let a[": "name ]",
    "let a[i": "<",
    "let a[i<": "number name",
    "let a[i<3": ", ]",
    "let a[i<n": ", ]",
    "let a[i<3,": "name",
    "let a[i<3,j<4,k<5": ", ]",
    "let a[i<3,j<4,k<5,l<6": "]",
    "let a[]": ":",
    "out a[i<3]": ":",
    "let a[]:": "kind",
    "out a[]:": "kind",
    "let a[]:u8": "=",
    "out a[]:u8": "=",
    "let a[]:u8=": VALUE_BEGINS,
    "out a[]:u8=": VALUE_BEGINS,
    "let a[]:u8=1": "; " + OPERATORS,
    "let a[]:u8=b": "[ ; " + OPERATORS,
    "let a[]:u8=-": VALUE_BEGINS,
    "let a[]:u8=~": VALUE_BEGINS,
    "let a[]:u8=-1": "; " + OPERATORS,
    "let a[]:u8=-b": "[ ; " + OPERATORS,
    "let a[]:u8=1<": VALUE_BEGINS,
    "let a[]:u8=1<2": "; | ^ & << >> + - * / %",
    "let a[]:u8=1==b": "[ ; | ^ & << >> + - * / %",
    "let a[]:u8=1<=2|3": "; | ^ & << >> + - * / %",
    "let a[]:u8=1|2": "; " + OPERATORS,
    "let a[]:u8=1*": VALUE_BEGINS,
    "let a[]:u8=b[": "] " + VALUE_BEGINS,
    "let a[]:u8=b[]": "; " + OPERATORS,
    "let a[]:u8=b[1]": "; " + OPERATORS,
    "let a[]:u8=b[1": ", ] " + OPERATORS,
    "let a[]:u8=b[c": "[ , ] " + OPERATORS,
    "let a[]:u8=b[1,": VALUE_BEGINS,
    "let a[]:u8=b[1<2": ", ] | ^ & << >> + - * / %",
    "let a[]:u8=b[1,2,3": ", ] " + OPERATORS,
    "let a[]:u8=b[1,2,3,4": "] " + OPERATORS,
    "let a[]:u8=(": VALUE_BEGINS,
    "let a[]:u8=(1": ") " + OPERATORS,
    "let a[]:u8=(b": "[ ) " + OPERATORS,
    "let a[]:u8=(1)": "; " + OPERATORS,
    "let a[]:u8=(1<2": ") | ^ & << >> + - * / %",
    "let a[]:u8=(1<2)": "; " + OPERATORS,
    "let a[]:u8=abs": "(",
    "let a[]:u8=trail": "(",
    "let a[]:u8=abs(": VALUE_BEGINS,
    "let a[]:u8=abs(1": ") " + OPERATORS,
    "let a[]:u8=abs(1)": "; " + OPERATORS,
    "let a[]:u8=min": "(",
    "let a[]:u8=rotl(": VALUE_BEGINS,
    "let a[]:u8=min(1": ", " + OPERATORS,
    "let a[]:u8=min(1<2": ", | ^ & << >> + - * / %",
    "let a[]:u8=min(1,": VALUE_BEGINS,
    "let a[]:u8=min(1,2": ") " + OPERATORS,
    "let a[]:u8=if": "(",
    "let a[]:u8=if(1": ", " + OPERATORS,
    "let a[]:u8=if(1,2": ", " + OPERATORS,
    "let a[]:u8=if(1,2,3": ") " + OPERATORS,
    "let a[]:u8=if(1,2,3)": "; " + OPERATORS,
    "let a[]:u8=sum": "(",
    "let a[]:u8=greatest": "(",
    "let a[]:u8=sum(": "name",
    "let a[]:u8=sum(i": "<",
    "let a[]:u8=sum(i<": "number name",
    "let a[]:u8=sum(i<3": ", :",
    "let a[]:u8=least(i<n": ", :",
    "let a[]:u8=sum(i<3,": "name",
    "let a[]:u8=sum(i<3,j<4,k<5": ", :",
    "let a[]:u8=sum(i<3,j<4,k<5,l<6": ":",
    "let a[]:u8=sum(i<3:": VALUE_BEGINS,
    "let a[]:u8=sum(i<3:1": ") " + OPERATORS,
    "let a[]:u8=sum(i<3:1)": "; " + OPERATORS,
    "let a[]:u8=b[sum(i<3:1)": ", ] " + OPERATORS,
}


def tokens_by_form():
    forms = {word: word for word in FIXED_WORDS + SIGNS}
    forms.update({"kind " + kind: kind for kind in KINDS})
    forms.update({"number": "7", "name": "q", "a bad sign": "$", "a bad name": "a234567890123456"})
    return forms


class EveryTokenBehind(ReadCase):

    def test_each_token_behind_each_text(self):
        for before, stand in WHAT_CAN_STAND.items():
            for form, token in tokens_by_form().items():
                text = before + " " + token
                told = answer_to_read(text)
                if form.split(" ")[0] in stand.split(" "):
                    # It stands: so the text is a whole one, wrong by a name at most, or something is missing.
                    self.assertTrue(told == [-1, len(text)] or (told[0] != -1 and text.endswith(";")), (text, told))
                else:
                    self.assertEqual(told, [-1, len(before) + 1], text)


class Missing(ReadCase):

    def test_each_text_cut_short(self):
        for before in WHAT_CAN_STAND:
            if before and not before.endswith(";"):
                self.refused_at(-1, before, len(before))
                self.refused_at(-1, before + "  \n", len(before) + 3)

    def test_a_program_cut_behind_each_token(self):
        tokens = ("let a [ i < n , j < 3 ] : i128 = sum ( k < n : b [ i , k ] * - c [ ] ) << 2 == min ( i , ~ j ) ; "
                  "size n ; in b [ n , 7 ] : u8 ; in c [ ] : i64 ;").split(" ")
        for length in range(1, len(tokens)):
            text = " ".join(tokens[:length])
            if not text.endswith(";"):
                self.refused_at(-1, text, len(text))

    def test_the_second_line_is_missing_something(self):
        self.refused(-1, "size n;size m¤")
        self.refused(-1, "size n;size m ¤")


class FirstFault(ReadCase):

    def test_the_first_of_several(self):
        self.refused(-1, "size ¤; size ; size")
        self.refused(-1, "size n; ¤n; $")

    def test_before_a_wrong_name(self):
        self.refused(-1, "size n; size n; size ¤;")
        self.refused(-1, "let a[]:u8=b; let ¤")
        self.refused(-1, "let a[]:u8=b[1,2]¤")

    def test_empty_places(self):
        self.refused(-1, "¤;")
        self.refused(-1, "size n;¤;")
        self.value_refused("¤;")
        self.value_refused("(¤);")
        self.value_refused("abs(¤);")
        self.value_refused("b[¤,];")
        self.value_refused("b[1,¤];")
        self.value_refused("sum(¤:1);")
        self.value_refused("sum(i<3:¤);")

    def test_a_value_that_is_called(self):
        self.value_refused("b¤(1);")
        self.value_refused("(b)¤[1];")
        self.value_refused("b[1]¤[2];")
        self.value_refused("1¤[2];")

    def test_signs_in_front_that_are_none(self):
        for sign in ("+", "*", "/", "%", "&", "|", "^", "<", "<=", "==", "<<", ">>", "=", ",", ":"):
            self.value_refused(" ¤" + sign + "1;")


if __name__ == "__main__":
    unittest.main()
