"""The call needs: which array's value names which, in whatever many steps."""

import itertools
import random
import unittest

from tests.helper import answers_with_few_calls_within_one_another, ask, needs, read

GREATEST = 9223372036854775807
OPERATORS = ("<", "<=", "==", "|", "^", "&", "<<", ">>", "+", "-", "*", "/", "%")


def table(program, count):
    """What needs answers of each pair of lines, a text each line: 1, 0, or - for -1."""
    rows = []
    for one in range(count):
        told = ask(read(program), *[needs(one, other) for other in range(count)])
        assert told[0] == [0], program
        rows.append("".join([{1: "1", 0: "0", -1: "-"}[answer[0]] for answer in told[1:]]))
        assert all(len(answer) == 1 for answer in told[1:])
    return rows


def arrays_naming(named):
    """Lines of arrays of rank 0, numbered names, whose values add those that are told."""
    return ["let a{}[]:u8={};".format(number, "+".join(["a{}[]".format(other) for other in others]) or "1")
            for number, others in enumerate(named)]


class Steps(unittest.TestCase):

    def test_one_step(self):
        self.assertEqual(table("in a[]:u8;let b[]:u8=a[];", 2), ["00", "10"])

    def test_many_steps(self):
        self.assertEqual(table("".join(arrays_naming([[1], [2], [3], [4], []])), 5),
                         ["01111", "00111", "00011", "00001", "00000"])

    def test_lines_in_every_order(self):
        lines = ["in a[]:u8;", "let b[]:u8=a[];", "out c[]:u8=b[];", "let d[]:u8=1;"]
        needed = {("b", "a"), ("c", "b"), ("c", "a")}
        for order in itertools.permutations(range(4)):
            names = ["abcd"[number] for number in order]
            wanted = ["".join(["1" if (one, other) in needed else "0" for other in names]) for one in names]
            self.assertEqual(table("".join([lines[number] for number in order]), 4), wanted)

    def test_itself_by_itself(self):
        self.assertEqual(table("let a[]:u8=a[];let b[]:u8=1;in c[]:u8;", 3), ["100", "000", "000"])
        self.assertEqual(table("let a[i<9]:u8=if(i<1,1,a[i-1]);", 1), ["1"])

    def test_a_line_that_names_nothing_does_not_need_itself(self):
        self.assertEqual(table("in a[]:u8;", 1), ["0"])
        self.assertEqual(table("let a[]:u8=1;", 1), ["0"])
        self.assertEqual(table("let b[]:u8=a[];let a[]:u8=1;", 2), ["01", "00"])

    def test_rings(self):
        self.assertEqual(table("".join(arrays_naming([[1], [0]])), 2), ["11", "11"])
        self.assertEqual(table("".join(arrays_naming([[1], [2], [0]])), 3), ["111"] * 3)
        self.assertEqual(table("".join(arrays_naming([[2], [0], [1]])), 3), ["111"] * 3)
        self.assertEqual(table("".join(arrays_naming([[1], [2], [3], [4], [0]])), 5), ["11111"] * 5)

    def test_from_outside_into_a_ring_and_out_of_one(self):
        # 0 names the ring of 1, 2 and 3; 3 names 4 too, which names nothing; 5 is alone.
        self.assertEqual(table("".join(arrays_naming([[1], [2], [3], [1, 4], [], []])), 6),
                         ["011110", "011110", "011110", "011110", "000000", "000000"])

    def test_two_rings(self):
        self.assertEqual(table("".join(arrays_naming([[1], [0], [3], [2]])), 4), ["1100", "1100", "0011", "0011"])
        self.assertEqual(table("".join(arrays_naming([[1], [0, 2], [3], [2]])), 4), ["1111", "1111", "0011", "0011"])

    def test_two_ways_to_one(self):
        self.assertEqual(table("".join(arrays_naming([[1, 2], [3], [3], []])), 4), ["0111", "0001", "0001", "0000"])

    def test_sixteen_arrays_that_each_name_the_next(self):
        named = [[number + 1] for number in range(15)] + [[]]
        wanted = ["0" * (number + 1) + "1" * (15 - number) for number in range(16)]
        self.assertEqual(table("".join(arrays_naming(named)), 16), wanted)
        turned = [[]] + [[number] for number in range(15)]
        wanted = ["1" * number + "0" * (16 - number) for number in range(16)]
        self.assertEqual(table("".join(arrays_naming(turned)), 16), wanted)

    def test_a_ring_of_sixteen(self):
        self.assertEqual(table("".join(arrays_naming([[(number + 1) % 16] for number in range(16)])), 16), ["1" * 16] * 16)

    def test_each_names_all(self):
        lines = ["let a{}[]:u8=a0[]+a1[]+a2[]+a3[]+a4[];".format(number) for number in range(5)]
        self.assertEqual(table("".join(lines), 5), ["11111"] * 5)

    def test_drawn_ones(self):
        draw = random.Random(5)
        for number in range(150):
            count = draw.randrange(1, 17)
            likely = draw.choice([0.03, 0.08, 0.15])
            named = [[other for other in range(count) if draw.random() < likely] for one in range(count)]
            order = list(range(count))
            draw.shuffle(order)
            lines = arrays_naming(named)
            self.assertEqual(table("".join([lines[one] for one in order]), count), self.closed(named, order))

    def closed(self, named, order):
        count = len(named)
        steps = [[other in named[one] for other in range(count)] for one in range(count)]
        for middle, one, other in itertools.product(range(count), repeat=3):
            steps[one][other] = steps[one][other] or (steps[one][middle] and steps[middle][other])
        return ["".join(["1" if steps[one][other] else "0" for other in order]) for one in order]

    def test_many_steps_are_gone_through_by_loops(self):
        named = [[number + 1] for number in range(15)] + [[0]]
        calls = read("".join(arrays_naming(named)))
        for one in range(16):
            calls += needs(0, one) + needs(one, 0)
        self.assertEqual(answers_with_few_calls_within_one_another(calls), [1, 0] + [1, 1] * 32)


class WhereAnArrayIsNamed(unittest.TestCase):
    """Lines 0 and 1 are in lines, 2 has a value that names the first of them alone, 3 names 2."""

    def names_the_first(self, value):
        program = "in a[]:u8;in b[9]:u8;let c[]:u8=" + value + ";out d[]:u8=c[];"
        told = ask(read(program), needs(2, 0), needs(3, 0), needs(2, 3), needs(3, 2), needs(0, 2))
        self.assertEqual(told, [[0], [1], [1], [0], [1], [0]], value)

    def test_in_every_place(self):
        for shape in ("{}", "({})", "((({})))", "-{}", "~{}", "-~-{}", "-({}+1)", "b[{}]", "b[b[{}]]", "b[1+{}]",
                      "abs({})", "ones({})", "lead({})", "trail({})", "min({},1)", "min(1,{})", "max({},1)", "max(1,{})",
                      "quo({},1)", "quo(1,{})", "rem({},1)", "rem(1,{})", "high({},1)", "high(1,{})", "rotl({},1)",
                      "rotl(1,{})", "if({},1,1)", "if(1,{},1)", "if(1,1,{})", "sum(i<3:{})", "product(i<3:{})",
                      "least(i<3:{})", "greatest(i<3:{})", "sum(i<3,j<4:product(k<5:i*{}))", "1+2+3+{}", "1*{}*3",
                      "if(1,1,sum(i<3:-b[abs({})]))"):
            self.names_the_first(shape.format("a[]"))
            self.names_the_first(shape.format("(a[])"))

    def test_on_both_sides_of_every_operator(self):
        for operator in OPERATORS:
            self.names_the_first("a[]" + operator + "1")
            self.names_the_first("1" + operator + "a[]")
            self.names_the_first("a[]" + operator + "a[]")

    def test_deep(self):
        self.names_the_first("(" * 19 + "a[]" + ")" * 19)
        self.names_the_first("b[" * 19 + "a[]" + "]" * 19)
        self.names_the_first("-" * 19 + "a[]")

    def test_each_value_in_brackets(self):
        for rank in range(1, 5):
            for place in range(rank):
                values = ",".join(["a[]" if number == place else "1" for number in range(rank)])
                program = "in a[]:u8;in b[" + ",".join(["9"] * rank) + "]:u8;let c[]:u8=b[" + values + "];"
                self.assertEqual(table(program, 3), ["000", "000", "110"])

    def test_the_outer_array_is_named_too(self):
        self.assertEqual(table("in a[]:u8;in b[9]:u8;let c[]:u8=b[a[]];", 3), ["000", "000", "110"])

    def test_several_at_once(self):
        program = "in a[]:u8;in b[9]:u8;let c[]:u8=a[]+b[1];let d[]:u8=b[2]*b[3];out e[]:u8=if(1,c[],1);"
        self.assertEqual(table(program, 5), ["00000", "00000", "11000", "01000", "11100"])

    def test_bounds_and_indices_name_no_array(self):
        program = "size n;in a[n]:u8;let b[i<n,j<3]:u8=i+j+n;out c[i<n]:u8=sum(j<n,k<n:i*j*k)+n;"
        self.assertEqual(table(program, 4), ["----", "-000", "-000", "-000"])

    def test_an_index_named_like_an_array_of_another_program(self):
        told = ask(read("in i[]:u8;let a[]:u8=i[];"), needs(1, 0), read("in b[]:u8;let a[i<3]:u8=i;"), needs(1, 0))
        self.assertEqual(told, [[0], [1], [0], [0]])

    def test_names_that_begin_alike(self):
        self.assertEqual(table("in a[]:u8;in aa[]:u8;in A[]:u8;let b[]:u8=aa[];", 4), ["0000", "0000", "0000", "0100"])


class WhichLines(unittest.TestCase):

    PROGRAM = "size n;in a[n]:u8;let b[i<n]:u8=a[i];size m;out c[i<m]:u8=b[i];"

    def test_whole(self):
        self.assertEqual(table(self.PROGRAM, 5), ["-----", "-00-0", "-10-0", "-----", "-11-0"])

    def test_an_in_line(self):
        told = ask(read(self.PROGRAM), needs(1, 1), needs(1, 2), needs(1, 4), needs(2, 1), needs(4, 1))
        self.assertEqual(told[1:], [[0], [0], [0], [1], [1]])

    def test_a_size(self):
        for size in (0, 3):
            for other in range(5):
                self.assertEqual(ask(read(self.PROGRAM), needs(size, other), needs(other, size))[1:], [[-1], [-1]])

    def test_numbers_that_are_no_lines(self):
        for number in (5, 6, 100, GREATEST - 1, GREATEST):
            for other in (0, 1, 2, 4, 5, GREATEST):
                self.assertEqual(ask(read(self.PROGRAM), needs(number, other), needs(other, number))[1:], [[-1], [-1]])

    def test_before_any_read(self):
        self.assertEqual(ask(needs(0, 0), needs(0, 1), needs(GREATEST, GREATEST)), [[-1]] * 3)

    def test_of_the_program_of_no_lines(self):
        self.assertEqual(ask(read(self.PROGRAM), read(""), needs(2, 1), needs(0, 0))[2:], [[-1], [-1]])

    def test_behind_a_refused_read(self):
        for refused in ("size", "size n;size n;", "let a[]:u8=q;", "let a[]:u8=a[1];", " " * 1025):
            self.assertEqual(ask(read(self.PROGRAM), read(refused), needs(4, 1), needs(1, 4))[2:], [[1], [0]])

    def test_behind_another_read(self):
        told = ask(read(self.PROGRAM), needs(2, 1), read("let b[]:u8=a[];let a[]:u8=1;"), needs(0, 1), needs(1, 0),
                   needs(2, 1))
        self.assertEqual(told[1::2] + told[4:5], [[1], [1], [-1], [0]])

    def test_asking_changes_nothing(self):
        pairs = [needs(one, other) for one in range(5) for other in range(5)]
        told = ask(read(self.PROGRAM), *pairs * 3)
        self.assertEqual(told[1:26], told[26:51])
        self.assertEqual(told[1:26], told[51:])


if __name__ == "__main__":
    unittest.main()
