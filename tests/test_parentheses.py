"""Of the parentheses around a value just the needed ones are printed."""

import itertools
import unittest

from axisprograms.programs import answers
from tests.helper import (BEFORE_VALUE, ROWS, PrintCase, answers_with_few_calls_within_one_another, line_text, print_all,
                          printed_program, read, row)

# Comparisons are values, looser than all rows.
COMPARISONS = ("<", "<=", "==")
LEVEL = {operator: level for level, operators in enumerate((COMPARISONS,) + ROWS) for operator in operators}
OPERATORS = tuple(LEVEL)
COMPARED = 0

# Each of these is a primary, whatever it's made of.
PRIMARIES = ("a", "7", "e[a]", "f[]", "g[a,1]", "h[a+1,b<c,-d,~1]", "abs(a)", "ones(a)", "lead(a)", "trail(a)",
             "min(a,b)", "max(a,b)", "quo(a,b)", "rem(a,b)", "high(a,b)", "rotl(a,b)", "if(a,b,c)", "sum(i<3:i)",
             "product(i<a:i)", "least(i<3,j<4:i)", "greatest(i<3:i)", "sum(i<a,j<b,k<c,l<d:i<j)", "if(a<b,c|d,-a)")


def first_may_be(inner, outer):
    """Whether a value of the inner operator may be the outer one's first operand without parentheses."""
    if LEVEL[outer] == COMPARED:
        return LEVEL[inner] > COMPARED
    return LEVEL[inner] >= LEVEL[outer]


def further_may_be(inner, outer):
    return LEVEL[inner] > LEVEL[outer]


def around(value, count):
    return "(" * count + value + ")" * count


class OperatorsInOneAnother(PrintCase):

    def test_as_the_first_operand(self):
        pairs = []
        for inner, outer in itertools.product(OPERATORS, repeat=2):
            plain = "a" + inner + "b"
            shown = plain if first_may_be(inner, outer) else around(plain, 1)
            wanted = shown + outer + "c"
            for count in (1, 2, 3):
                pairs.append((around(plain, count) + outer + "c", wanted))
                pairs.append((around(around(plain, count) + outer + "c", count), wanted))
        self.values_printed(pairs)

    def test_as_a_further_operand(self):
        pairs = []
        for inner, outer in itertools.product(OPERATORS, repeat=2):
            plain = "b" + inner + "c"
            wanted = "a" + outer + (plain if further_may_be(inner, outer) else around(plain, 1))
            for count in (1, 2, 3):
                pairs.append(("a" + outer + around(plain, count), wanted))
                pairs.append((around("a" + outer + around(plain, count), count), wanted))
        self.values_printed(pairs)

    def test_as_the_last_of_more(self):
        pairs = []
        for inner, outer in itertools.product(OPERATORS, [sign for operators in ROWS for sign in operators]):
            plain = "c" + inner + "d"
            shown = plain if further_may_be(inner, outer) else around(plain, 1)
            pairs.append(("a" + outer + "b" + outer + around(plain, 2), "a" + outer + "b" + outer + shown))
            pairs.append(("(a" + outer + "b)" + outer + around(plain, 1), "a" + outer + "b" + outer + shown))
        self.values_printed(pairs)

    def test_between_two(self):
        pairs = []
        for left, inner, right in itertools.product(OPERATORS, repeat=3):
            if LEVEL[left] == LEVEL[right] == COMPARED:
                continue
            plain = "b" + inner + "c"
            # The tighter of the two has it as its operand; of two alike, the left one.
            if LEVEL[left] >= LEVEL[right]:
                may = further_may_be(inner, left)
            else:
                may = first_may_be(inner, right)
            wanted = "a" + left + (plain if may else around(plain, 1)) + right + "d"
            pairs.append(("a" + left + around(plain, 1) + right + "d", wanted))
            pairs.append(("a" + left + around(plain, 2) + right + "(d)", wanted))
        self.values_printed(pairs)

    def test_without_parentheses(self):
        pairs = []
        for one, other in itertools.product(OPERATORS, repeat=2):
            if LEVEL[one] == LEVEL[other] == COMPARED:
                continue
            value = "a" + one + "b" + other + "c"
            pairs += [(value, value), (around(value, 1), value), (around(value, 5), value)]
        self.values_printed(pairs)

    def test_both_operands_in_parentheses(self):
        pairs = []
        for left, outer, right in itertools.product(OPERATORS, repeat=3):
            first = "a" + left + "b"
            further = "c" + right + "d"
            wanted = first if first_may_be(left, outer) else around(first, 1)
            wanted += outer + (further if further_may_be(right, outer) else around(further, 1))
            pairs.append((around(first, 1) + outer + around(further, 2), wanted))
        self.values_printed(pairs)

    def test_three_within_one_another(self):
        pairs = []
        for inmost, inner, outer in itertools.product(OPERATORS, repeat=3):
            left = "a" + inmost + "b"
            left = (left if first_may_be(inmost, inner) else around(left, 1)) + inner + "c"
            left = (left if first_may_be(inner, outer) else around(left, 1)) + outer + "d"
            pairs.append(("((a" + inmost + "b)" + inner + "c)" + outer + "d", left))
            right = "c" + inmost + "d"
            right = "b" + inner + (right if further_may_be(inmost, inner) else around(right, 1))
            right = "a" + outer + (right if further_may_be(inner, outer) else around(right, 1))
            pairs.append(("a" + outer + "((b" + inner + "((c" + inmost + "d))))", right))
        self.values_printed(pairs)


class Told(PrintCase):
    """Values and what each is printed as, written out."""

    def all_printed(self, told):
        for value, wanted in told.items():
            self.value_printed(value, wanted)

    def test_rows_of_the_same_level(self):
        self.all_printed({
            "a-(b-c)": "a-(b-c)",
            "(a-b)-c": "a-b-c",
            "((a-b))-c": "a-b-c",
            "a-((b-c))": "a-(b-c)",
            "a-b-c": "a-b-c",
            "(a+b)-(c+d)": "a+b-(c+d)",
            "a-(b+(c-d))": "a-(b+(c-d))",
            "((a-b)-c)-d": "a-b-c-d",
            "(a-(b-c))-d": "a-(b-c)-d",
            "a-((b-c)-d)": "a-(b-c-d)",
            "(a<<b)>>(c<<d)": "a<<b>>(c<<d)",
            "(a*b)/(c%d)": "a*b/(c%d)",
            "a%(b%c)": "a%(b%c)",
            "(a%b)%c": "a%b%c",
            "(a|b)|(c|d)": "a|b|(c|d)",
            "a^(b^c)": "a^(b^c)",
            "(a&b)&c": "a&b&c",
        })

    def test_levels(self):
        self.all_printed({
            "(a*b)+c": "a*b+c",
            "a+(b*c)": "a+b*c",
            "(a+b)*c": "(a+b)*c",
            "a*(b+c)": "a*(b+c)",
            "((a+b)*c)+d": "(a+b)*c+d",
            "(a|b)^c": "(a|b)^c",
            "(a^b)|c": "a^b|c",
            "a|((b^((c&((d<<((1+((2*3))))))))))": "a|b^c&d<<1+2*3",
            "((((((1*2)+3)<<d)&c)^b)|a)": "1*2+3<<d&c^b|a",
            "((((((1|2)^3)&d)<<c)+b)*a)": "(((((1|2)^3)&d)<<c)+b)*a",
            "a*(b+(c<<(d&(1^(2|3)))))": "a*(b+(c<<(d&(1^(2|3)))))",
            "a+(b*c)*d": "a+b*c*d",
            "a+((b*c)*d)": "a+b*c*d",
            "a+(b*(c*d))": "a+b*(c*d)",
            "(a+(b*c))*d": "(a+b*c)*d",
            "((a)+(b))": "a+b",
        })

    def test_comparisons(self):
        self.all_printed({
            "(a<b)<c": "(a<b)<c",
            "a<(b<c)": "a<(b<c)",
            "((a<=b))==((c<d))": "(a<=b)==(c<d)",
            "(a|b)<(c|d)": "a|b<c|d",
            "(a<b)": "a<b",
            "((((a==b))))": "a==b",
            "(a<b)|c": "(a<b)|c",
            "a|(b<c)": "a|(b<c)",
            "a|((b<c)|d)": "a|((b<c)|d)",
            "((a<b)|c)|d": "(a<b)|c|d",
            "(a<b)+(c<d)": "(a<b)+(c<d)",
            "a<((b))": "a<b",
            "((a))<b": "a<b",
            "a<-(b<c)": "a<-(b<c)",
            "(-a)<(-b)": "-a<-b",
            "a==((b|c)|d)": "a==b|c|d",
            "a==(b|(c|d))": "a==b|(c|d)",
            "((a<b)<c)<d": "((a<b)<c)<d",
            "a<(b<(c<d))": "a<(b<(c<d))",
        })

    def test_signs_in_front(self):
        self.all_printed({
            "-(-a)": "--a",
            "-(~a)": "-~a",
            "~(-a)": "~-a",
            "~((~(a)))": "~~a",
            "-(a*b)": "-(a*b)",
            "~((a*b))": "~(a*b)",
            "(-a)*b": "-a*b",
            "((~a))*b": "~a*b",
            "a*(-b)": "a*-b",
            "a-(-b)": "a--b",
            "a- -b": "a--b",
            "a-((-(-b)))": "a---b",
            "-(a)": "-a",
            "-(7)": "-7",
            "-((f[]))": "-f[]",
            "-(e[(a)])": "-e[a]",
            "~(abs((a)))": "~abs(a)",
            "-(sum(i<3:(i)))": "-sum(i<3:i)",
            "-(a<b)": "-(a<b)",
            "-(a+b)": "-(a+b)",
            "-((-a)*b)": "-(-a*b)",
            "-(-(a*b))": "--(a*b)",
            "-(-(-(a+b)))": "---(a+b)",
            "(-(a*b))*c": "-(a*b)*c",
            "-(a*b)*c": "-(a*b)*c",
            "(-a)-(-b)": "-a--b",
            "(-(a))": "-a",
            "a*(-b)*c": "a*-b*c",
            "a/((-b)*c)": "a/(-b*c)",
            "(-a)+b": "-a+b",
            "-(a)+b": "-a+b",
            "-(a+b)+c": "-(a+b)+c",
            "a<<(-(b))": "a<<-b",
            "-a-(b-c)": "-a-(b-c)",
            "-(a-b)-c": "-(a-b)-c",
            "(-(a-b)-c)-d": "-(a-b)-c-d",
            "f[]-(a-b)": "f[]-(a-b)",
            "e[a]-(-b)": "e[a]--b",
            "7-(a-b)": "7-(a-b)",
            "abs(a)-(a-b)": "abs(a)-(a-b)",
            "(a)-(a-b)": "a-(a-b)",
        })

    def test_signs_in_front_of_each_primary(self):
        pairs = []
        for sign, value in itertools.product(("-", "~", "--", "-~", "~-", "~~"), PRIMARIES):
            pairs.append((sign + value, sign + value))
            pairs.append((sign + "(" + value + ")", sign + value))
            pairs.append(("(" + sign + "((" + value + ")))", sign + value))
            for operator in OPERATORS:
                wanted = sign + value + operator + sign + value
                pairs.append((around(sign + value, 1) + operator + around(sign + value, 2), wanted))
        self.values_printed(pairs)

    def test_signs_in_front_of_each_row(self):
        pairs = []
        for sign, operator in itertools.product(("-", "~", "-~"), OPERATORS):
            plain = "a" + operator + "b"
            for count in (1, 2, 3):
                pairs.append((sign + around(plain, count), sign + "(" + plain + ")"))
                pairs.append(("((" + sign + around(plain, count) + "))*c", sign + "(" + plain + ")*c"))
                pairs.append(("c*((" + sign + around(plain, count) + "))", "c*" + sign + "(" + plain + ")"))
        self.values_printed(pairs)

    def test_around_primaries(self):
        pairs = []
        for value in PRIMARIES:
            for count in (1, 2, 7):
                pairs.append((around(value, count), value))
                pairs += [(around(value, count) + operator + "a", value + operator + "a") for operator in OPERATORS]
                pairs += [("a" + operator + around(value, count), "a" + operator + value) for operator in OPERATORS]
        self.values_printed(pairs)

    def test_blanks_in_parentheses_are_nothing(self):
        self.all_printed({"( ( a - b ) ) - ( c )": "a-b-c", " ( a\n*\tb ) ": "a*b", "-\r\n(\n-\na )": "--a"})


class WhereAWholeValueStands(PrintCase):
    """No parentheses are needed around a whole value, and those of brackets and words always are."""

    VALUES = ("a", "1", "-a", "a*b", "a-b", "a<<b", "a&b", "a^b", "a|b", "a<b", "a<=b", "a==b", "f[]", "abs(a)",
              "sum(i<3:i)", "(a<b)<c", "a-(b-c)", "(a+b)*c", "-(a+b)")
    PLACES = ("{}", "e[{}]", "g[{},1]", "g[1,{}]", "h[{},1,1,1]", "h[1,{},1,1]", "h[1,1,{},1]", "h[1,1,1,{}]",
              "abs({})", "ones({})", "lead({})", "trail({})",
              "min({},1)", "min(1,{})", "max({},1)", "max(1,{})", "quo({},1)", "quo(1,{})", "rem({},1)", "rem(1,{})",
              "high({},1)", "high(1,{})", "rotl({},1)", "rotl(1,{})", "if({},1,1)", "if(1,{},1)", "if(1,1,{})",
              "sum(z<3:{})", "product(z<3:{})", "least(z<3:{})", "greatest(z<3:{})", "sum(w<a,x1<b,y<c,z<d:{})",
              "-e[{}]", "1*abs({})", "abs({})*1", "-sum(z<3:{})", "min(1,e[abs({})])<1")

    def test_each_value_at_each_place(self):
        pairs = []
        for place, value in itertools.product(self.PLACES, self.VALUES):
            wanted = place.format(value)
            for count in (0, 1, 2, 5):
                pairs.append((place.format(around(value, count)), wanted))
        self.values_printed(pairs)

    def test_all_values_of_a_word_at_once(self):
        pairs = []
        for value in self.VALUES:
            inner = around(value, 1)
            for shape in ("h[{0},{0},{0},{0}]", "if({0},{0},{0})", "min({0},{0})"):
                pairs.append((shape.format(inner), shape.format(value)))
        self.values_printed(pairs)

    def test_in_let_and_out_lines(self):
        for word in ("let", "out"):
            for value in self.VALUES:
                line = word + " x[k<3]:i128="
                text = self.BEFORE + line + around(value, 3) + ";"
                self.assertEqual(printed_program(text).split("\n")[8], line + value + ";")


class Long(PrintCase):

    def test_rows_of_sixteen(self):
        pairs = []
        for operators in ROWS:
            full = row(operators, 16)
            pairs += [(full, full), (around(full, 20), full), (full + "<" + full, full + "<" + full)]
            pairs.append((operators[-1].join(["(1)"] * 16), operators[-1].join(["1"] * 16)))
            pairs.append((around(full, 3) + "==" + around(full, 4), full + "==" + full))
        self.values_printed(pairs)

    def test_rows_whose_first_operand_is_a_row(self):
        for operators in ROWS:
            pairs = []
            for inner in range(2, 17):
                first = row(operators, inner)
                for count in (1, 2, 9):
                    whole = row(operators, 17 - inner, around(first, count))
                    pairs.append((whole, row(operators, 17 - inner, first)))
            nested = "1"
            for number in range(15):
                nested = "(" + nested + ")" + operators[0] + "2"
            pairs.append((nested, row(operators[:1], 16)))
            self.values_printed(pairs)

    def test_full_rows_as_further_operands(self):
        pairs = []
        for operators in ROWS:
            full = row(operators, 16)
            wanted = row(operators, 15) + operators[0] + "(" + full + ")"
            pairs.append((row(operators, 15) + operators[0] + around(full, 4), wanted))
        for loose, tight in itertools.combinations(ROWS, 2):
            full = row(tight, 16)
            pairs.append((loose[0].join([around(full, 1)] * 8), loose[0].join([full] * 8)))
            pairs.append((tight[0].join([around(row(loose, 16), 2)] * 8), tight[0].join([around(row(loose, 16), 1)] * 8)))
        self.values_printed(pairs)

    def test_twenty_open(self):
        self.value_printed(around("a", 20), "a")
        self.value_printed("-" * 20 + "a", "-" * 20 + "a")
        self.value_printed("-(" * 10 + "a" + ")" * 10, "-" * 10 + "a")
        self.value_printed("-(" * 10 + "a+b" + ")" * 10, "-" * 10 + "(a+b)")
        self.value_printed("(a+" * 20 + "b" + ")" * 20, "a+(" + "a+(" * 18 + "a+b" + ")" * 19)
        self.value_printed("(a*" * 20 + "b" + ")" * 20, "a*(" + "a*(" * 18 + "a*b" + ")" * 19)
        self.value_printed("abs((" * 10 + "a" + "))" * 10, "abs(" * 10 + "a" + ")" * 10)
        self.value_printed("e[" * 20 + "a" + "]" * 20, "e[" * 20 + "a" + "]" * 20)
        self.value_printed("e[(" * 10 + "a<b" + ")]" * 10, "e[" * 10 + "a<b" + "]" * 10)
        self.value_printed("if(1,2,(" * 10 + "a" + "))" * 10, "if(1,2," * 10 + "a" + ")" * 10)
        self.value_printed("(" * 20 + "a<b" + ")<1" * 20, "(" * 20 + "a<b" + ")<1" * 20)

    def test_deep_by_turns(self):
        value = wanted = "1"
        for number in range(20):
            operators = ("+", "*")[number % 2]
            # A product in a sum needs none, a sum in a product does.
            wanted = ("(" + wanted + ")" if number % 2 and number > 0 else wanted) + operators + "1"
            value = "(" + value + ")" + operators + "1"
        self.value_printed(value, wanted)

    def test_values_of_nearly_the_longest_text(self):
        room = 1024 - len(BEFORE_VALUE) - 1
        many = "+".join(["*".join(["(1)"] * 10)] * 16)
        self.whole_printed(many, "+".join(["*".join(["1"] * 10)] * 16))
        tight = "+".join(["*".join(["1"] * 16)] * 16)
        self.whole_printed(tight, tight)
        spread = "|".join(["((1)^(2))"] * 16)
        spread = "<".join([spread] * 2)
        self.whole_printed(spread + " " * (room - len(spread)), "<".join(["|".join(["1^2"] * 16)] * 2))
        signs = "+".join(["-" * 20 + "1"] * 16)
        signs = signs + "<" + "+".join(["~" * 20 + "1"] * 16)
        self.whole_printed(signs, signs)
        wide = "+".join(["(" * 19 + "(1*2)" + ")" * 19] * 16)
        self.whole_printed(wide, "+".join(["1*2"] * 16))
        deep = "min(1,(2-(" * 6 + "3-4" + ")))" * 6
        self.whole_printed(deep, "min(1,2-" * 6 + "(3-4)" + ")" * 6)
        self.whole_printed("(" + "0" * (room - 2) + ")", "0")
        self.whole_printed("((" + "0" * (room - 5) + "7))", "7")

    def whole_printed(self, value, wanted):
        text = self.line_of(value)
        self.assertLessEqual(len(text), 1024)
        self.assertEqual(printed_program(text), self.line_of(wanted) + "\n")
        self.reads_as_the_same(text)

    def test_what_is_nested_is_gone_through_by_loops(self):
        deep = ("(a+" * 20 + "b" + ")" * 20, "e[" * 20 + "a" + "]" * 20, "-" * 20 + "a", "-(" * 10 + "a" + ")" * 10,
                "(" * 20 + "a<b" + ")<1" * 20)
        calls = []
        for value in deep:
            calls += read(self.BEFORE + self.line_of(value)) + line_text(8) + print_all()
        self.assertEqual(answers_with_few_calls_within_one_another(calls), answers(calls))


if __name__ == "__main__":
    unittest.main()
