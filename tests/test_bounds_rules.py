"""The rules for cells and for what is known of a step's value: the least certificates of small functions."""

import unittest

from tests.certificates import LIST, CertificateTest, certificate, with_main
from tests.helpers import BOOL, INT, UNIT
from tests.programs import block, end, function, in_pair, new, number, pair, program, step

ARRAY = ("array", (INT,), 0)
LIMIT = 10 ** 12


def positive(steps, value):
    """A function's body: if its parameter 0 is positive these steps and their value, and 0 otherwise."""
    test = (number(100, 0), step("less", 101, BOOL, (100, 0)))
    return (*test, step("if", 102, INT, (101,), blocks=(block(steps, value), block((number(103, 0),), 103))))


class IntegersTest(CertificateTest):
    def test_parameter(self):
        self.size_of((), 0, (0, 1))
        self.size_of((), 1, (0, 0, 1), kinds=(INT, INT))

    def test_int(self):
        for value, size in ((0, 0), (5, 5), (-5, 0), (2 ** 31 - 1, 2 ** 31 - 1), (-2 ** 31, 0)):
            self.size_of((number(1, value),), 1, (size, 0))

    def test_add(self):
        add = step("add", 3, INT, (1, 2))
        self.size_of((number(1, 3), number(2, 4), add), 3, (7, 0))
        self.size_of((number(1, 0), number(2, 0), add), 3, (0, 0))
        self.size_of((number(1, 3), number(2, -1), add), 3, None)
        self.size_of((number(1, -3), number(2, 1), add), 3, None)
        self.size_of((number(1, 3), step("add", 3, INT, (0, 1))), 3, None)
        self.size_of((number(1, 3), step("add", 3, INT, (1, 0))), 3, None)
        self.size_of(positive((number(1, 3), step("add", 3, INT, (0, 1))), 3), 102, (3, 1))
        self.size_of(positive((step("add", 3, INT, (0, 0)),), 3), 102, (0, 2))

    def test_a_sum_has_no_least_value(self):
        rows = (number(1, 3), step("add", 3, INT, (1, 1)), step("add", 4, INT, (3, 1)))
        self.size_of(rows, 4, None)

    def test_sub(self):
        def rest(constant):
            return positive((number(1, constant), step("sub", 3, INT, (0, 1))), 3)

        self.size_of(rest(1), 102, (0, 1))
        self.size_of(rest(0), 102, (0, 1))
        self.size_of(rest(7), 102, (0, 1))
        self.size_of(rest(-1), 102, None)
        self.size_of((number(1, 9), number(2, 4), step("sub", 3, INT, (1, 2))), 3, (5, 0))
        self.size_of((number(1, 4), number(2, 9), step("sub", 3, INT, (1, 2))), 3, (0, 0))
        self.size_of((number(1, -1), number(2, 0), step("sub", 3, INT, (1, 2))), 3, None)
        self.size_of((number(1, 4), step("sub", 3, INT, (0, 1))), 3, None)
        self.size_of((number(1, 4), step("sub", 3, INT, (1, 0))), 3, None)
        self.size_of(positive((step("sub", 3, INT, (0, 0)),), 3), 102, None)

    def test_the_least_value_of_a_difference(self):
        def sum_behind(constant):
            rows = (number(1, constant), step("sub", 2, INT, (0, 1)), number(3, 5), step("add", 4, INT, (2, 3)))
            return positive(rows, 4)

        # 1 + u - 1 + 5 is at most 4 + (1 + u); behind a greater constant it may be negative.
        self.size_of(sum_behind(1), 102, (4, 1))
        self.size_of(sum_behind(2), 102, None)
        self.size_of((number(1, 9), number(2, 4), step("sub", 3, INT, (1, 2)), step("add", 4, INT, (3, 2))), 4, (9, 0))
        # A difference is no constant.
        rows = (number(1, 9), number(2, 4), step("sub", 3, INT, (1, 2)), step("mul", 4, INT, (3, 3)))
        self.size_of(rows, 4, None)

    def test_the_least_value_of_what_has_no_bound(self):
        rows = (step("deref", 2, INT, (0,)), number(3, 2), step("less", 4, BOOL, (2, 3)),
                step("if", 5, INT, (4,), blocks=(
                    block((number(6, 0),), 6),
                    block((number(7, 1), step("sub", 8, INT, (2, 7)), step("array", 9, ("array", (INT,), 5), (8, 8), region=5),
                           step("len", 10, INT, (9,)), step("add", 11, INT, (10, 7))), 11))))
        one = function((new(5), *rows, end(5), end(0)), 5, kinds=(("ref", (INT,), 0),), formals=1, touch=(0,))
        self.function_least(one, (13, 0), ((0, 0),), None)
        self.accepts(with_main(one), (certificate(0, (13, 0), ((0, 0),), (13, 0)), certificate(1, (0, 0))))
        self.refuses(with_main(one), (certificate(0, (13, 0), ((0, 0),), (12, 0)), certificate(1, (0, 0))))

    def test_mul(self):
        self.size_of(positive((number(1, 3), step("mul", 3, INT, (0, 1))), 3), 102, (0, 3))
        self.size_of(positive((number(1, 3), step("mul", 3, INT, (1, 0))), 3), 102, (0, 3))
        self.size_of(positive((number(1, 0), step("mul", 3, INT, (1, 0))), 3), 102, (0, 0))
        self.size_of(positive((number(1, -3), step("mul", 3, INT, (1, 0))), 3), 102, None)
        self.size_of(positive((step("mul", 3, INT, (0, 0)),), 3), 102, None)
        self.size_of((number(1, 3), step("mul", 3, INT, (0, 1))), 3, None)
        self.size_of((number(1, 0), step("mul", 3, INT, (0, 1))), 3, None)
        self.size_of((number(1, 3), number(2, 4), step("mul", 3, INT, (1, 2))), 3, (12, 0))
        self.size_of((number(1, 3), number(2, -4), step("mul", 3, INT, (1, 2))), 3, None)
        self.size_of((number(1, 3), number(2, -4), step("mul", 3, INT, (2, 1))), 3, None)

    def test_too_great(self):
        """A bound with a number greater than MAX_COEFFICIENT is unknown."""
        for second, size in ((10 ** 6, LIMIT), (10 ** 6 + 1, None)):
            rows = (number(1, 10 ** 6), number(2, second), step("mul", 3, INT, (1, 2)))
            self.size_of(rows, 3, None if size is None else (size, 0))
        # 1 + u times a constant, twice: the coefficient is too great.
        for second, size in ((10 ** 3, (0, LIMIT)), (10 ** 3 + 1, None)):
            test = (number(20, 0), step("len", 21, INT, (0,)), number(1, 10 ** 9), step("mul", 3, INT, (21, 1)))
            one = function((*test, number(2, second), step("less", 22, BOOL, (20, 3)), end(0)), 22, kinds=(ARRAY,), result=BOOL,
                           formals=1, touch=(0,))
            self.function_least(one, (0, 0), ((0, 0),), (0, 0))
            rows = (number(1, 10 ** 9), step("mul", 3, INT, (0, 1)), number(2, second), number(4, 0),
                    step("less", 5, BOOL, (4, 3)), step("if", 6, INT, (5,), blocks=(
                        block((step("mul", 7, INT, (3, 2)),), 7), block((number(8, 0),), 8))))
            self.size_of(positive(rows, 6), 102, size)

    def test_div_and_rem(self):
        for op in ("div", "rem"):
            self.size_of((number(1, 6), number(2, 2), step(op, 3, INT, (1, 2))), 3, None)

    def test_values_without_a_size(self):
        for rows, value, kind in (
            ((step("bool", 1, BOOL, (), True),), 1, BOOL), ((step("unit", 1, UNIT),), 1, UNIT),
            ((step("print", 1, UNIT, (0,)),), 1, UNIT), ((step("equal", 1, BOOL, (0, 0)),), 1, BOOL),
            ((step("less", 1, BOOL, (0, 0)),), 1, BOOL),
        ):
            self.size_of(rows, value, (0, 0), result=kind)

    def test_raise(self):
        self.size_of((step("raise", 1, INT, (0,), 0),), 1, (0, 0))
        self.size_of((step("raise", 1, INT, (0,), 0), number(2, 3), step("add", 3, INT, (1, 2))), 3, (3, 0))
        self.size_of((step("raise", 1, BOOL, (0,), 0),), 1, (0, 0), result=BOOL)
        self.size_of((step("raise", 1, LIST, (0,), 0),), 1, (0, 0), result=LIST, formals=1)


class CellsTest(CertificateTest):
    """Cells in a region that the function begins and ends, and in a formal."""

    CASES = (
        (pair(1, 0), 2), (step("tuple", 1, ("tuple", (INT,) * 6, 0), (0,) * 6, region=0), 6),
        (step("make", 1, ("data", 2, 0), (0, 99), 0, region=0), 3), (step("ref", 1, ("ref", (INT,), 0), (0,), region=0), 1),
        (step("fn", 1, ("fn", (INT, INT), 0), blocks=(block((), 50, (50,)),), region=0), 2),
        (step("fn", 1, ("fn", (INT, INT), 0), blocks=(block((step("add", 51, INT, (0, 50)),), 51, (50,)),), region=0), 3),
        (step("fn", 1, ("fn", (INT, BOOL), 0), blocks=(block((step("print", 51, UNIT, (0,)),), 99, (50,)),), region=0), 4),
        (step("make", 1, ("data", 2, 0), (98,), 3, region=0), 2),
    )
    FIRST = (step("bool", 99, BOOL, (), True), step("unit", 98, UNIT))

    def test_in_a_region_of_its_own(self):
        for one, words in self.CASES:
            self.function_least(function((new(0), *self.FIRST, one, end(0)), 0, kinds=(INT,)), (words, 0), (), (0, 1))

    def test_in_a_formal(self):
        for one, words in self.CASES:
            value = function((*self.FIRST, one, end(0)), 0, kinds=(INT,), formals=1, touch=(0,))
            self.function_least(value, (words, 0), ((words, 0),))
            self.function_least(value, (words, 0, 1), (), mine=(0,))

    def test_arrays(self):
        for count, words, size in ((0, 1, 0), (3, 4, 3), (12, 13, 12), (13, 0, 0), (-1, 0, 0), (2 ** 31 - 1, 0, 0)):
            rows = (number(1, count), step("array", 2, ARRAY, (1, 0), region=0))
            one = function((*rows, end(0)), 2, kinds=(INT,), result=ARRAY, formals=1, touch=(0,))
            self.function_least(one, (words, 0), ((words, 0),), (size, 0))
            one = function((new(0), *rows, end(0)), 0, kinds=(INT,))
            self.function_least(one, (words, 0), (), (0, 1))

    def test_no_cell_is_no_addition(self):
        """Where no cell is made, what was added before need not be compared once more."""
        rows = (number(1, 13), step("array", 2, ARRAY, (1, 0), region=0), pair(3, 0), end(0))
        self.function_least(function(rows, 0, kinds=(INT,), formals=1, touch=(0,)), (2, 0), ((2, 0),))

    def test_arrays_of_what_is_no_constant(self):
        def arrays(*rows, count, kinds=(INT,)):
            return function((*rows, step("array", 9, ARRAY, (count, count), region=0), end(0)), 9, kinds=kinds, result=ARRAY,
                            formals=1, touch=(0,))

        self.function_least(arrays(count=0), (1, 1), ((1, 1),), (0, 1))
        self.function_least(arrays(count=1, kinds=(INT, INT)), (1, 0, 1), ((1, 0, 1),), (0, 0, 1))
        self.function_least(arrays(step("div", 1, INT, (0, 0)), count=1), (13, 0), ((13, 0),), (12, 0))
        # 15 elements are not made, but the bound is that of the count.
        self.function_least(arrays(number(1, 10), number(2, 5), step("add", 3, INT, (1, 2)), count=3), (16, 0), ((16, 0),), (15, 0))

    def test_several_regions(self):
        rows = (new(1), pair(2, 1), new(3), pair(3, 3), pair(4, 3), end(1), pair(5, 3), end(3))
        self.function_least(function(rows, 0, kinds=(INT,)), (6, 0), (), (0, 1))
        rows = (new(1), pair(2, 1), end(1), new(3), pair(3, 3), end(3))
        self.function_least(function(rows, 0, kinds=(INT,)), (2, 0), (), (0, 1))

    def test_owned_and_not_owned(self):
        """What is held in owned regions ends with them; what was added to others stays added."""
        rows = (pair(1, 0), end(0), pair(2, 1), pair(3, 1), end(1))
        one = function(rows, 0, kinds=(INT,), formals=2, touch=(0, 1))
        self.function_least(one, (6, 0), ((2, 0), (4, 0)))
        # Where region 0 is owned, its words are given back before the others are made.
        self.function_least(one, (4, 0, 1), ((4, 0, 0),), mine=(0,))
        self.function_least(one, (6, 0, 1), ((2, 0, 0),), mine=(1,))
        self.function_least(one, (4, 0, 1, 1), (), mine=(0, 1))

    def test_the_beginning(self):
        """What the owned regions hold at the beginning counts at once."""
        one = function((end(0), end(1)), 0, kinds=(INT,), formals=2, touch=(0, 1))
        self.function_least(one, (0, 0, 1, 1), (), mine=(0, 1))
        self.function_least(one, (0, 0, 1), ((0, 0, 0),), mine=(1,))
        self.function_least(one, (0, 0), ((0, 0), (0, 0)))

    def test_greatest_numbers(self):
        # 1 + 10 ** 12 words are one too many.
        for factor, words in ((10 ** 6 - 1, (10 ** 6 - 1) * 10 ** 6 + 1), (10 ** 6, None)):
            rows = (number(1, 10 ** 6), number(2, factor), step("mul", 3, INT, (1, 2)), new(0),
                    step("array", 4, ARRAY, (3, 0), region=0), end(0))
            one = function(rows, 0, kinds=(INT,))
            if words is not None:
                self.function_least(one, (words, 0))
            else:
                self.refuses(with_main(one), (certificate(0, (LIMIT, LIMIT)), certificate(1, (0, 0))))

    def test_sums_of_great_numbers(self):
        """All that is held may be too great although no region's part is."""
        for count, total in ((1999998, LIMIT), (1999999, None)):
            rows = (number(1, 10 ** 6), number(2, 10 ** 6 - 2), step("mul", 3, INT, (1, 2)), number(4, count), number(5, 1),
                    step("mul", 6, INT, (4, 5)), new(0), new(1), step("array", 7, ARRAY, (3, 0), region=0),
                    step("array", 8, ("array", (INT,), 1), (6, 0), region=1), end(0), end(1))
            one = function(rows, 0, kinds=(INT,))
            if total is not None:
                self.function_least(one, (total, 0))
            else:
                self.refuses(with_main(one), (certificate(0, (LIMIT, LIMIT)), certificate(1, (0, 0))))

    def test_the_sum_behind_a_call(self):
        """It is not compared with the peak again, but it must not be too great."""
        callee = function((end(0), end(1)), 0, name="g", kinds=(INT,), formals=2, touch=(0, 1))
        call = step("call", 1, INT, (0,), 0, use=((5, "keep"), (6, "keep")))
        value = program(callee, function((new(5), new(6), call, end(5), end(6)), 0, name="main", kinds=(INT,)))
        for second in (0, 1):
            certificates = (certificate(0, (0, 0), ((LIMIT, 0), (second, 0))), certificate(1, (0, 0)))
            if second:
                self.refuses(value, certificates, 1)
            else:
                self.accepts(value, certificates)


class StructuresTest(CertificateTest):
    NESTED = ("tuple", (INT, in_pair(0)), 0)

    def made(self, *rows, value, kind, kinds=(INT,)):
        return function((*rows, end(0)), value, kinds=kinds, result=kind, formals=1, touch=(0,))

    def test_tuples(self):
        outer = step("tuple", 2, self.NESTED, (0, 1), region=0)
        self.function_least(self.made(pair(1, 0), value=1, kind=in_pair(0)), (2, 0), ((2, 0),), (2, 0))
        self.function_least(self.made(pair(1, 0), outer, value=2, kind=self.NESTED), (4, 0), ((4, 0),), (4, 0))
        # The size of what a tuple contains is that of the parameter.
        outer = step("tuple", 2, self.NESTED, (0, 1), region=0)
        self.function_least(self.made(outer, value=2, kind=self.NESTED, kinds=(INT, in_pair(0))), (2, 0, 0), ((2, 0, 0),),
                            (2, 0, 1))

    def test_what_is_not_counted_inside(self):
        """Integers, arrays, references and closures in a cell do not add to its size."""
        kinds = (INT, ARRAY, ("ref", (INT,), 0), ("fn", (INT, INT), 0))
        outer = step("tuple", 9, ("tuple", kinds, 0), (0, 1, 2, 3), region=0)
        one = self.made(outer, value=9, kind=("tuple", kinds, 0), kinds=kinds)
        self.function_least(one, (4, 0, 0, 0, 0), ((4, 0, 0, 0, 0),), (4, 0, 0, 0, 0))

    def test_constructors(self):
        nil = step("make", 1, LIST, (), 0)
        cons = step("make", 2, LIST, (0, 1), 1, region=0)
        self.function_least(self.made(nil, value=1, kind=LIST), (0, 0), ((0, 0),), (0, 0))
        self.function_least(self.made(nil, cons, value=2, kind=LIST), (3, 0), ((3, 0),), (3, 0))
        again = step("make", 3, LIST, (0, 2), 1, region=0)
        self.function_least(self.made(nil, cons, again, value=3, kind=LIST), (6, 0), ((6, 0),), (6, 0))
        onto = step("make", 2, LIST, (0, 1), 1, region=0)
        self.function_least(self.made(onto, value=2, kind=LIST, kinds=(INT, LIST)), (3, 0, 0), ((3, 0, 0),), (3, 0, 1))

    def test_what_contains_something_unknown(self):
        kind = ("tuple", (in_pair(0), INT), 0)
        rows = (step("deref", 1, in_pair(0), (0,)), number(3, 1), step("tuple", 2, kind, (1, 3), region=0))
        one = self.made(*rows, value=2, kind=kind, kinds=(("ref", (in_pair(0),), 0),))
        self.function_least(one, (2, 0), ((2, 0),))
        self.unknown(with_main(one), (2, 0), ((2, 0),))

    def reader(self, op, kind, part, ins, size, **more):
        rows = (number(8, 0), step(op, 9, part, ins, 1 if op == "get" else None, **more))
        one = function((*rows, end(0)), 9, kinds=(kind,), result=part, formals=1, touch=(0,))
        if size is not None:
            self.function_least(one, (0, 0), ((0, 0),), size)
            return
        self.accepts(with_main(one), (certificate(0, (0, 0), ((0, 0),)), certificate(1, (0, 0))))
        self.unknown(with_main(one), (0, 0), ((0, 0),))

    PARTS = (in_pair(0), LIST, INT, ARRAY, BOOL, UNIT, ("ref", (INT,), 0), ("fn", (INT, INT), 0))

    def test_get(self):
        for part in self.PARTS:
            size = {"tuple": (0, 1), "data": (0, 1), "int": None, "array": None}.get(part[0], (0, 0))
            self.reader("get", ("tuple", (INT, part), 0), part, (0,), size)

    def test_deref_and_at(self):
        for part in self.PARTS:
            size = None if part[0] in ("tuple", "data", "int", "array") else (0, 0)
            self.reader("deref", ("ref", (part,), 0), part, (0,), size)
            self.reader("at", ("array", (part,), 0), part, (0, 8), size)

    def test_len(self):
        self.reader("len", ARRAY, INT, (0,), (0, 1))
        rows = (step("deref", 1, ARRAY, (0,)), step("len", 2, INT, (1,)))
        one = function((*rows, end(0)), 2, kinds=(("ref", (ARRAY,), 0),), formals=1, touch=(0,))
        self.function_least(one, (0, 0), ((0, 0),), (12, 0))
        # A length is not negative.
        rows = (step("len", 1, INT, (0,)), number(2, 5), step("add", 3, INT, (1, 2)))
        self.function_least(function((*rows, end(0)), 3, kinds=(ARRAY,), formals=1, touch=(0,)), (0, 0), ((0, 0),), (5, 1))

    def test_the_least_length(self):
        """A length less one may be negative, and so may what is raised less one."""
        rows = (step("len", 1, INT, (0,)), number(2, 1), step("sub", 3, INT, (1, 2)), step("add", 4, INT, (3, 2)))
        one = function((*rows, end(0)), 4, kinds=(ARRAY,), formals=1, touch=(0,))
        self.unknown(with_main(one), (0, 0), ((0, 0),))
        rows = (step("raise", 1, INT, (0,), 0), number(2, 1), step("sub", 3, INT, (1, 2)), step("add", 4, INT, (3, 2)))
        self.size_of(rows, 4, None)

    def test_set_and_put(self):
        kinds = (("ref", (INT,), 0), ARRAY)
        rows = (number(2, 1), step("set", 3, UNIT, (0, 2)), step("put", 4, UNIT, (1, 2, 2)))
        for value in (3, 4):
            one = function((*rows, end(0)), value, kinds=kinds, result=UNIT, formals=1, touch=(0,))
            self.function_least(one, (0, 0, 0), ((0, 0, 0),), (0, 0, 0))

    def test_references_and_closures(self):
        ref = step("ref", 1, ("ref", (INT,), 0), (0,), region=0)
        self.function_least(self.made(ref, value=1, kind=("ref", (INT,), 0)), (1, 0), ((1, 0),), (0, 0))
        fn = step("fn", 1, ("fn", (INT, INT), 0), region=0, blocks=(block((), 5, (5,)),))
        self.function_least(self.made(fn, value=1, kind=("fn", (INT, INT), 0)), (2, 0), ((2, 0),), (0, 0))


class ClosuresTest(CertificateTest):
    def test_blocks_of_closures_are_not_visited(self):
        """What happens in them counts nowhere, not even an apply or a call without a certificate."""
        kind = ("fn", (INT, INT), 0)
        called = function((), 0, name="g", kinds=(INT,))
        inner = block((new(7), pair(11, 7, 10, 10), end(7), step("call", 12, INT, (10,), 0), step("fn", 13, kind, region=0, blocks=(
            block((), 20, (20,)),)), step("apply", 14, INT, (13, 12))), 14, (10,))
        one = function((new(0), step("fn", 1, kind, region=0, blocks=(inner,)), end(0)), 0, kinds=(INT,))
        main = function((), 0, name="main", kinds=(INT,))
        self.least(program(called, one, main), certificate(1, (2, 0), (), (0, 1)), certificate(2, (0, 0)))

    def test_apply(self):
        kind = ("fn", (INT, INT), 0)
        fn = step("fn", 1, kind, region=0, blocks=(block((), 20, (20,)),))
        one = function((new(0), fn, step("apply", 2, INT, (1, 0)), end(0)), 2, kinds=(INT,))
        self.refuses(with_main(one), (certificate(0, (LIMIT, LIMIT)), certificate(1, (0, 0))))


class OrderTest(CertificateTest):
    def test_a_growth_of_0(self):
        """A growth is compared whenever something is added to it, and nowhere else."""
        one = function((end(0),), 0, kinds=(INT,), formals=1, touch=(0,))
        self.function_least(one, (0, 0), ((0, 0),))


if __name__ == "__main__":
    unittest.main()
