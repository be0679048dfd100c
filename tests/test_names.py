"""What is wrong with names: its number, its place, and which of several is told."""

import unittest

from tests.helper import ReadCase


def sizes(count, prefix="s"):
    return "".join(["size " + prefix + str(number) + ";" for number in range(count)])


def arrays(count, prefix="a"):
    forms = ("in {}[]:u8;", "let {}[]:u8=1;", "out {}[]:u8=1;")
    return "".join([forms[number % 3].format(prefix + str(number)) for number in range(count)])


class NameTaken(ReadCase):
    """Number 2."""

    def test_a_lines_name_that_an_earlier_line_has(self):
        forms = ("size {}n;", "in {}n[]:u8;", "let {}n[]:u8=1;", "out {}n[]:u8=1;")
        for first in forms:
            for second in forms:
                self.refused(-2, first.format("") + second.format("¤"))
        self.refused(-2, "size n;size m;size ¤n;")
        self.refused(-2, "size n;size ¤n;size n;")

    def test_a_ranges_name_that_any_line_has(self):
        self.refused(-2, "size n;let a[¤n<3]:u8=1;")
        self.refused(-2, "let a[¤n<3]:u8=1;size n;")
        self.refused(-2, "let a[¤a<3]:u8=1;")
        self.refused(-2, "out a[i<3,¤b<3]:u8=1;in b[]:u8;")
        self.value_refused_as(-2, "sum(¤x<3:1)")
        self.refused(-2, "let a[]:u8=sum(i<3,¤b<3:1);out b[]:u8=1;")

    def value_refused_as(self, number, marked):
        self.refused(number, "let x[]:u8=" + marked + ";")

    def test_a_ranges_name_that_is_in_force(self):
        self.refused(-2, "let a[i<3,¤i<4]:u8=1;")
        self.refused(-2, "let a[i<3,j<4,k<5,¤j<6]:u8=1;")
        self.refused(-2, "let a[i<3]:u8=sum(¤i<4:1);")
        self.value_refused_as(-2, "sum(i<3,¤i<4:1)")
        self.value_refused_as(-2, "sum(i<3:least(j<3:1+abs(product(¤i<4:1))))")
        self.value_refused_as(-2, "sum(i<3:greatest(j<3,¤i<4:1))")

    def test_a_range_over_itself_is_told_first(self):
        self.refused(-2, "let a[¤n<n]:u8=1;size n;")

    def test_one_index_in_several_places(self):
        self.taken("let a[i<3]:u8=i;let b[i<4]:u8=i;", 2)
        self.value_taken("sum(i<3:i)+sum(i<3:i)")
        self.value_taken("min(sum(i<3:i),sum(i<3,j<3:i+j)*sum(j<3:j))")
        self.value_taken("sum(i<3:sum(j<3:i+j)+sum(j<3:i-j))")


class NameUnknown(ReadCase):
    """Number 3."""

    def test_a_name_as_a_value(self):
        self.refused(-3, "let a[]:u8=¤n;")
        self.refused(-3, "let a[i<3]:u8=i+¤j;")
        self.refused(-3, "let a[]:u8=¤b;in b[]:u8;")
        self.refused(-3, "let a[]:u8=¤a;")
        self.refused(-3, "let a[]:u8=1+min(2,-¤n);")
        self.refused(-3, "in b[1]:u8;let a[]:u8=b[¤b];")
        self.taken("let a[]:u8=n;size n;", 2)

    def test_a_name_with_brackets(self):
        self.refused(-3, "let a[]:u8=¤b[];")
        self.refused(-3, "let a[]:u8=¤n[];size n;")
        self.refused(-3, "let a[i<3]:u8=¤i[];")
        self.refused(-3, "let a[]:u8=¤n[1,2];size n;")
        self.refused(-3, "let a[i<3]:u8=a[¤b[i]];")

    def test_a_bound(self):
        self.refused(-3, "in a[¤n]:u8;")
        self.refused(-3, "in a[1,¤a]:u8;")
        self.refused(-3, "let a[i<¤n]:u8=1;")
        self.refused(-3, "let a[i<¤b]:u8=1;in b[]:u8;")
        self.refused(-3, "let a[i<3,j<¤i]:u8=1;")
        self.refused(-3, "let a[i<¤i]:u8=1;")
        self.refused(-3, "let a[i<3]:u8=sum(j<¤i:1);")
        self.refused(-3, "let a[]:u8=sum(j<3,k<¤j:1);")
        self.refused(-3, "let a[]:u8=sum(j<¤n:1);")
        self.taken("in a[n]:u8;let b[i<n]:u8=sum(j<n:1);size n;", 3)

    def test_where_a_lines_indices_are_in_force(self):
        self.taken("let a[i<3,j<4]:u8=a[i,j]+sum(k<3:i+j+k);", 1)
        self.refused(-3, "let a[i<3]:u8=i;let b[]:u8=¤i;")
        self.refused(-3, "let b[]:u8=¤i;let a[i<3]:u8=i;")

    def test_where_a_reductions_indices_are_in_force(self):
        self.value_taken("sum(i<3:i+sum(j<3:i+j)+i)")
        self.refused(-3, "let a[]:u8=sum(i<3:i)+¤i;")
        self.refused(-3, "let a[]:u8=¤i+sum(i<3:i);")
        self.refused(-3, "let a[]:u8=sum(i<3:i+sum(j<3:j)+¤j);")
        self.refused(-3, "let a[]:u8=sum(i<3,j<3:sum(k<3,l<3:i+j+k+l)+i+j+¤k);")
        self.refused(-3, "let a[]:u8=min(sum(i<3:i),¤i);")
        self.refused(-3, "let a[]:u8=(sum(i<3:(i)))+(¤i);")
        self.taken("let a[h<3]:u8=sum(i<3,j<3:1)+h;", 1)
        self.taken("let a[h<3]:u8=sum(i<3:sum(j<3,k<3,l<3:1)+i+h)+h;", 1)
        self.refused(-3, "let a[h<3]:u8=sum(i<3:sum(j<3,k<3,l<3:1)+i+h)+h+¤i;")


class WrongRank(ReadCase):
    """Number 4."""

    def test_each_rank_with_each_number_of_values(self):
        for rank in range(5):
            for values in range(5):
                before = "in b[" + ",".join("2" * rank) + "]:u8;let a[]:u8=1+"
                after = "b[" + ",".join("1" * values) + "];"
                if rank == values:
                    self.taken(before + after, 2)
                else:
                    self.refused(-4, before + "¤" + after)

    def test_lines_of_each_word(self):
        self.refused(-4, "let a[i<3]:u8=¤a[];")
        self.refused(-4, "out a[i<3,j<3]:u8=¤a[i];")
        self.refused(-4, "let a[]:u8=¤b[1];out b[i<3,j<4]:u8=1;")
        self.refused(-4, "in b[3]:u8;let a[]:u8=b[¤b[1,2]];")

    def test_the_name_comes_before_what_is_in_its_brackets(self):
        self.refused(-4, "in b[3]:u8;let a[]:u8=¤b[n,m];")
        self.refused(-4, "in b[3]:u8;let a[]:u8=¤b[b[1,2],3];")
        self.refused(-3, "in b[3]:u8;let a[]:u8=¤c[b[1,2],3];")
        self.refused(-3, "in b[3]:u8;let a[]:u8=b[¤m];")

    def test_values_are_counted_at_their_own_brackets(self):
        self.taken("in b[3,3]:u8;in c[3]:u8;let a[]:u8=b[c[1],c[min(1,2)]]+c[b[1,2]];", 3)


class TooMany(ReadCase):
    """Number 5."""

    def test_eight_and_nine_sizes(self):
        self.taken(sizes(8), 8)
        self.refused(-5, sizes(8) + "size ¤t;")
        self.refused(-5, sizes(8) + "size ¤t;size u;")

    def test_sixteen_and_seventeen_arrays(self):
        self.taken(arrays(16), 16)
        self.refused(-5, arrays(16) + "in ¤t[]:u8;")
        self.refused(-5, arrays(16) + "let ¤t[]:u8=1;")
        self.refused(-5, arrays(16) + "out ¤t[]:u8=1;")

    def test_both_kinds_of_line_together(self):
        self.taken(sizes(8) + arrays(16), 24)
        self.taken(arrays(16) + sizes(8), 24)
        self.refused(-5, sizes(8) + arrays(16) + "size ¤t;")
        self.refused(-5, arrays(16) + sizes(8) + "in ¤t[]:u8;")
        self.refused(-5, sizes(8) + "size ¤t;" + arrays(16) + "in u[]:u8;")

    def test_what_is_declared_too_late_is_declared_all_the_same(self):
        self.refused(-5, "in a[t]:u8;" + sizes(8) + "size ¤t;")
        self.refused(-5, "let b[]:u8=t[];" + arrays(15) + "in ¤t[]:u8;")
        self.refused(-2, "let b[¤t<3]:u8=1;" + sizes(8) + "size t;")

    def test_lines_count_though_a_name_stands_twice(self):
        self.refused(-2, "size n;size ¤n;" + sizes(7))


class TheFirstLineCounts(ReadCase):

    def test_of_a_size_and_an_array(self):
        self.refused(-3, "let a[i<¤n]:u8=1;in n[]:u8;size n;")
        self.refused(-2, "let a[i<n]:u8=1;size n;in ¤n[]:u8;")
        self.refused(-3, "let a[]:u8=¤n[];size n;in n[]:u8;")
        self.refused(-2, "let a[]:u8=n[];in n[]:u8;size ¤n;")
        self.refused(-2, "let a[]:u8=n;size n;in ¤n[]:u8;")
        self.refused(-3, "let a[]:u8=¤n;in n[]:u8;size n;")

    def test_of_two_ranks(self):
        self.refused(-4, "let a[]:u8=¤b[1];in b[1,2]:u8;in b[1]:u8;")
        self.refused(-2, "let a[]:u8=b[1];in b[1]:u8;in ¤b[1,2]:u8;")

    def test_of_the_line_itself_and_a_later_one(self):
        self.refused(-2, "let a[i<3]:u8=a[i];let ¤a[]:u8=a[];")
        self.refused(-4, "let a[i<3]:u8=¤a[];let a[]:u8=a[];")


class WhichIsTold(ReadCase):

    def test_the_least_place(self):
        self.refused(-3, "let a[]:u8=¤n;size a;let a[a<n]:u8=1;")
        self.refused(-2, "size n;size ¤n;let a[]:u8=m;")
        self.refused(-4, "in b[1]:u8;let a[]:u8=¤b[]+n;")
        self.refused(-3, "in b[1]:u8;let a[]:u8=¤n+b[];")
        self.refused(-2, "let a[¤a<n]:u8=n;")
        self.refused(-3, "let a[i<¤n,i<3]:u8=n;")
        self.refused(-2, "let a[i<3,¤i<n]:u8=n;")
        self.refused(-3, "let a[]:u8=¤m;" + sizes(9))
        self.refused(-5, sizes(8) + "size ¤t;let a[]:u8=m;")

    def test_the_smaller_number_at_one_place(self):
        self.refused(-2, sizes(8) + "size ¤s3;")
        self.refused(-2, arrays(16) + "in ¤a5[]:u8;")
        self.refused(-2, sizes(8) + arrays(16) + "in ¤s5[]:u8;")

    def test_names_are_looked_at_only_in_programs(self):
        self.refused(-1, "size n;size n¤")
        self.refused(-1, "let a[]:u8=n;¤a")

    def test_places_count_blanks(self):
        self.refused(-3, "\n\n let a [ ] : u8 =\t ¤n ;")

    def test_capitals_make_another_name(self):
        self.refused(-3, "size n;let a[]:u8=¤N;")
        self.taken("size n;let N[]:u8=n;", 2)


if __name__ == "__main__":
    unittest.main()
