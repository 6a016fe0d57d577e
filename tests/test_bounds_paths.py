"""The rules for calls, blocks and path variables: the least certificates of small functions."""

import unittest

from tests.certificates import LIST, CertificateTest, certificate, with_main
from tests.helpers import BOOL, INT, UNIT
from tests.programs import block, end, function, in_pair, main_of, new, number, pair, program, step

ARRAY = ("array", (INT,), 0)
TREE = ("data", 1, 0)
MIX = ("data", 2, 0)
LIMIT = 10 ** 12


def less(out, first, second):
    return step("less", out, BOOL, (first, second))


def branch(out, condition, first, second, kind=INT):
    """An if step; the blocks are pairs of steps and a value."""
    return step("if", out, kind, (condition,), blocks=(block(*first), block(*second)))


def case(out, variable, *blocks, kind=INT):
    return step("case", out, kind, (variable,), blocks=blocks)


def call(out, ins, callee, *use, kind=INT):
    return step("call", out, kind, ins, callee, use=use)


def array(out, count, region=0):
    return step("array", out, ("array", (INT,), region), (count, count), region=region)


def main(*steps, value=0):
    return function(steps, value, name="main", kinds=(INT,))


class ExampleTest(CertificateTest):
    """The examples of the document."""

    def test_of_the_interface(self):
        value = main_of((new(0), pair(1, 0), step("get", 2, INT, (1,), 0), end(0)), 2)
        self.accepts(value, ((0, (), (2, 0), (), None),))
        self.refuses(value, ((0, (), (1, 0), (), None),))

    # build(n): if 0 < n then a cell of 3 words with build(n - 1), else the empty list.
    def build(self):
        first = ((number(3, 1), step("sub", 4, INT, (0, 3)), call(5, (4,), 0, (0, "keep"), kind=LIST),
                  step("make", 6, LIST, (0, 5), 1, region=0), end(0)), 6)
        second = ((step("make", 8, LIST, (), 0), end(0)), 8)
        rows = (number(1, 0), less(2, 1, 0), branch(9, 2, first, second, kind=LIST))
        return function(rows, 9, name="build", kinds=(INT,), result=LIST, formals=1, touch=(0,))

    def test_of_the_part(self):
        value = with_main(self.build())
        rest = certificate(1, (0, 0))
        self.accepts(value, ((0, (), (0, 3), ((0, 3),), (0, 3)), rest))
        for changed in ((0, (), (0, 2), ((0, 3),), (0, 3)), (0, (), (0, 3), ((0, 2),), (0, 3)),
                        (0, (), (0, 3), ((0, 3),), (0, 2))):
            self.refuses(value, (changed, rest))
        self.least(value, (0, (), (0, 3), ((0, 3),), (0, 3)), rest)
        # Others that hold: what is greater at every number, and no size.
        self.accepts(value, ((0, (), (1, 4), ((0, 4),), (7, 3)), rest))
        self.accepts(value, ((0, (), (0, 3), ((0, 3),), None), rest))

    def test_a_constant_does_not_replace_a_coefficient(self):
        value = with_main(self.build())
        self.refuses(value, ((0, (), (LIMIT, 2), ((LIMIT, 2),), None), certificate(1, (0, 0))))


class CallTest(CertificateTest):
    # Makes a pair in 0 and a cell of 1 + n words in 1, and ends both.
    CALLEE = function((pair(1, 0), end(0), array(2, 0, 1), end(1)), 0, name="g", kinds=(INT,), formals=2, touch=(0, 1))

    def with_call(self, *use, before=(), behind=()):
        return program(self.CALLEE, main(new(5), new(6), *before, call(9, (0,), 0, *use), *behind))

    def test_nothing_is_taken(self):
        value = self.with_call((5, "keep"), (6, "keep"), behind=(end(5), end(6)))
        callee = certificate(0, (3, 1), ((2, 0), (1, 1)))
        self.least(value, callee, certificate(1, (3, 1)))
        self.least(value, certificate(1, (3, 1)), callee)

    def test_taken(self):
        value = self.with_call((5, "last"), (6, "keep"), before=(pair(7, 5), pair(8, 6)), behind=(end(6),))
        self.least(value, certificate(0, (2, 1, 1), ((1, 1, 0),), mine=(0,)), certificate(1, (6, 1)))
        value = self.with_call((5, "last"), (6, "last"), before=(pair(7, 5), pair(8, 6)))
        self.least(value, certificate(0, (2, 1, 1, 1), mine=(0, 1)), certificate(1, (6, 1)))

    def test_what_is_taken_is_counted_once(self):
        """The words of a taken region are in the callee's peak, not in those that the caller still holds."""
        ends = function((end(0),), 0, name="g", kinds=(INT,), formals=1, touch=(0,))
        value = program(ends, main(new(5), pair(7, 5), call(9, (0,), 0, (5, "last")), new(6), pair(8, 6), end(6)))
        self.least(value, certificate(0, (0, 0, 1), mine=(0,)), certificate(1, (2, 0)))

    def test_there_must_be_a_certificate_for_just_those(self):
        value = self.with_call((5, "last"), (6, "keep"), behind=(end(6),))
        first = certificate(0, (3, 1), ((2, 0), (1, 1)))
        both = certificate(0, (3, 1, 1, 1), mine=(0, 1))
        second = certificate(0, (3, 1, 1), ((2, 0, 0),), mine=(1,))
        top = certificate(1, (9, 9))
        self.refuses(value, (first, both, second, top), 3)
        self.refuses(value, (top,))
        self.accepts(value, (first, both, second, top, certificate(0, (3, 1, 1), ((1, 1, 0),), mine=(0,))))

    def test_a_region_that_is_handed_on_but_not_owned(self):
        """A formal that the caller of the function owns is not taken, whatever the mode of the pair is."""
        ends = function((pair(1, 0), end(0)), 0, name="g", kinds=(INT,), formals=1, touch=(0,))
        hands_on = function((call(1, (0,), 0, (0, "last")),), 0, name="f", kinds=(INT,), formals=1, touch=(0,))
        value = program(ends, hands_on, main())
        self.least(value, certificate(0, (2, 0), ((2, 0),)), certificate(1, (2, 0), ((2, 0),)), certificate(2, (0, 0)))
        self.least(value, certificate(0, (2, 0, 1), mine=(0,)), certificate(1, (2, 0, 1), mine=(0,)), certificate(2, (0, 0)))
        self.refuses(value, (certificate(0, (2, 0), ((2, 0),)), certificate(1, (2, 0, 1), mine=(0,)), certificate(2, (0, 0))), 1)

    def test_growth_of_formals(self):
        """What a call adds to a formal is compared with its growth, and all of it counts from then on."""
        rows = (call(1, (0,), 0, (1, "keep"), (0, "keep")), call(2, (0,), 0, (1, "keep"), (0, "keep")), pair(3, 0), end(0), end(1))
        value = program(self.CALLEE, function(rows, 0, name="f", kinds=(INT,), formals=2, touch=(0, 1)), main())
        self.least(value, certificate(0, (3, 1), ((2, 0), (1, 1))), certificate(1, (8, 2), ((4, 2), (4, 0))), certificate(2, (0, 0)))

    def test_growth_of_nothing(self):
        """Growth by 0 is compared as well; and what is not touched has no growth."""
        ends = function((end(1),), 0, name="g", kinds=(INT, in_pair(0)), formals=2, touch=(1,))
        rows = (new(5), pair(3, 5), call(9, (0, 3), 0, (5, "none"), (0, "keep")), end(5), end(0))
        value = program(ends, function(rows, 0, name="f", kinds=(INT,), formals=1, touch=(0,)), main())
        self.least(value, certificate(0, (0, 0, 0), ((0, 0, 0),)), certificate(1, (2, 0), ((0, 0),)), certificate(2, (0, 0)))

    def test_both_formals_in_one_region(self):
        value = self.with_call((5, "keep"), (5, "keep"), behind=(pair(7, 5), end(5), end(6)))
        self.least(value, certificate(0, (3, 1), ((2, 0), (1, 1))), certificate(1, (5, 1)))

    def test_the_peak_is_not_compared_behind_the_growth(self):
        """The callee's peak may be less than what its growth says; then the growth is compared at the next cell."""
        value = self.with_call((5, "keep"), (6, "keep"), behind=(end(5), end(6)))
        self.accepts(value, (certificate(0, (3, 1), ((50, 0), (1, 1))), certificate(1, (3, 1))))
        value = self.with_call((5, "keep"), (6, "keep"), behind=(pair(7, 6), end(5), end(6)))
        self.accepts(value, (certificate(0, (3, 1), ((50, 0), (1, 1))), certificate(1, (53, 1))))
        self.refuses(value, (certificate(0, (3, 1), ((50, 0), (1, 1))), certificate(1, (52, 1))), 1)

    def test_arguments(self):
        """The variables stand for the bounds of the ins."""
        two = function((new(0), array(3, 1, 0), end(0), new(2), array(4, 2, 2), end(2)), 0, name="g", kinds=(INT, INT, INT))
        rows = (number(1, 4), number(2, -4), call(5, (0, 1, 2), 0), call(6, (1, 0, 0), 0), call(7, (2, 2, 1), 0))
        self.least(program(two, main(*rows)), certificate(0, (1, 0, 1, 1)), certificate(1, (5, 2)))

    def test_unknown_arguments(self):
        """They must not occur with a coefficient other than 0."""
        callee = function((new(0), array(3, 1, 0), end(0)), 0, name="g", kinds=(INT, INT))
        rows = (step("div", 1, INT, (0, 0)), call(5, (1, 0), 0))
        self.least(program(callee, main(*rows)), certificate(0, (1, 0, 1)), certificate(1, (1, 1)))
        rows = (step("div", 1, INT, (0, 0)), call(5, (0, 1), 0))
        self.refuses(program(callee, main(*rows)), (certificate(0, (1, 0, 1)), certificate(1, (LIMIT, LIMIT))), 1)
        self.refuses(program(callee, main(*rows)), (certificate(1, (LIMIT, LIMIT)), certificate(0, (1, 0, 1))))
        # In its growth.
        grows = function((array(3, 0, 0), end(0)), 0, name="g", kinds=(INT,), formals=1, touch=(0,))
        rows = (step("div", 1, INT, (0, 0)), new(5), call(6, (1,), 0, (5, "keep")), end(5))
        for peak in ((1, 1), (13, 0)):
            self.refuses(program(grows, main(*rows)), (certificate(0, (1, 1), ((1, 1),)), certificate(1, (LIMIT, LIMIT))), 1)

    def result(self, kind, size, wanted, *, argument=0, formals=1):
        """A function that returns the result of another one, of which a size is claimed."""
        inner = function((step("raise", 1, kind, (0,), 0), end(0)), 1, name="g", kinds=(INT,), result=kind, formals=1, touch=(0,))
        rows = (step("div", 1, INT, (0, 0)), call(2, (argument,), 0, (0, "last"), kind=kind))
        outer = function(rows, 2, name="f", kinds=(INT,), result=kind, formals=1, touch=(0,))
        value = program(inner, outer, main(), datas=(("list", (("Nil", ()), ("Cons", (INT, LIST)))),))
        given = (certificate(0, (0, 0), ((0, 0),), size), certificate(1, (0, 0), ((0, 0),), wanted), certificate(2, (0, 0)))
        if wanted is None:
            self.accepts(value, given)
            greatest = certificate(1, (0, 0), ((0, 0),), (LIMIT, LIMIT))
            self.refuses(value, (given[0], greatest, given[2]), 1)
            return
        self.accepts(value, given)
        for index in range(2):
            if wanted[index]:
                less_size = tuple(many - (at == index) for at, many in enumerate(wanted))
                self.refuses(value, (given[0], certificate(1, (0, 0), ((0, 0),), less_size), given[2]), 1)

    def test_results(self):
        for kind in (INT, ARRAY, in_pair(0), LIST):
            self.result(kind, (3, 2), (3, 2))
            self.result(kind, None, None)
            # The argument is unknown: it must not occur in the size.
            self.result(kind, (3, 2), None, argument=1)
            self.result(kind, (3, 0), (3, 0), argument=1)
        for kind in (BOOL, UNIT, ("ref", (INT,), 0), ("fn", (INT, INT), 0)):
            self.result(kind, (3, 2), (3, 2))
            self.result(kind, None, (0, 0))
            self.result(kind, (3, 2), (0, 0), argument=1)

    def test_a_result_has_no_least_value(self):
        inner = function((), 0, name="g", kinds=(INT,))
        rows = (number(1, 2), call(2, (1,), 0), step("add", 3, INT, (1, 2)))
        value = program(inner, function(rows, 3, name="f", kinds=(INT,)), main())
        size = certificate(0, (0, 0), (), (0, 1))
        self.accepts(value, (size, certificate(1, (0, 0)), certificate(2, (0, 0))))
        self.refuses(value, (size, certificate(1, (0, 0), (), (LIMIT, LIMIT)), certificate(2, (0, 0))), 1)

    def test_a_result_that_is_too_great(self):
        inner = function((), 0, name="g", kinds=(INT,))
        rows = (number(1, 10 ** 6), call(2, (1,), 0))
        value = program(inner, function(rows, 2, name="f", kinds=(INT,)), main())
        for coefficient, size in ((10 ** 6, (LIMIT, 0)), (10 ** 6 + 1, None)):
            given = (certificate(0, (0, 0), (), (0, coefficient)), certificate(1, (0, 0), (), size), certificate(2, (0, 0)))
            self.accepts(value, given)
            if size is None:
                self.refuses(value, (given[0], certificate(1, (0, 0), (), (LIMIT, LIMIT)), given[2]), 1)


class IfTest(CertificateTest):
    def body(self, *rows, first, second, condition):
        """A function of an int that ends in an if."""
        return function((*rows, branch(99, condition, first, second)), 99, kinds=(INT,))

    def test_in_the_first_block(self):
        for constant, size in ((0, (1, 1)), (4, (1, 1)), (-1, None), (-2, None)):
            # c < n: n is at least c + 1, and n + 1 is 2 + c + u where n is 1 + c + u.
            rows = (number(1, constant), less(2, 1, 0), number(3, 1))
            one = self.body(*rows, condition=2, first=((step("add", 4, INT, (0, 3)),), 4), second=((), 3))
            if size is not None or constant == -1:
                self.function_least(one, (0, 0), (), (1, 1))
            else:
                self.unknown(with_main(one))

    def test_in_the_second_block(self):
        # n < c is false: n is at least c.
        for constant, known in ((1, True), (0, True), (-1, False)):
            rows = (number(1, constant), less(2, 0, 1), number(3, 1))
            one = self.body(*rows, condition=2, first=((), 3), second=((step("add", 4, INT, (0, 3)),), 4))
            if known:
                self.function_least(one, (0, 0), (), (1, 1))
            else:
                self.unknown(with_main(one))

    def test_not_in_the_other_blocks(self):
        add = ((step("add", 4, INT, (0, 3)),), 4)
        for rows, first, second in (((number(1, 4), less(2, 1, 0)), ((), 3), add), ((number(1, 4), less(2, 0, 1)), add, ((), 3))):
            one = self.body(*rows, number(3, 1), condition=2, first=first, second=second)
            self.unknown(with_main(one))

    def test_what_is_replaced(self):
        """The constant may be used where the variable is at least so much: n pays for m words by one coefficient."""
        for constant in (1, 2, 4):
            cell = step("tuple", 5, ("tuple", (INT,) * constant, 8), (0,) * constant, region=8) if constant > 1 else (
                step("ref", 5, ("ref", (INT,), 8), (0,), region=8))
            rows = (number(1, constant), less(2, 0, 1))
            one = self.body(*rows, condition=2, first=((), 0), second=((new(8), cell, end(8)), 0))
            self.function_least(one, (0, 1), (), (0, 1))

    def test_other_conditions(self):
        """The condition must be the variable of a less step itself, and one side a constant."""
        add = ((step("add", 4, INT, (0, 3)),), 4)
        for rows, condition in (
            ((number(1, 0), step("equal", 2, BOOL, (1, 0))), 2), ((number(1, 0), step("bool", 2, BOOL, (), True)), 2),
            ((number(1, 0), less(5, 1, 0), branch(2, 5, ((), 5), ((), 5), kind=BOOL)), 2),
            ((number(5, 0), number(6, 0), step("sub", 1, INT, (5, 6)), less(2, 1, 0)), 2), ((less(2, 0, 0),), 2),
        ):
            one = self.body(number(3, 1), *rows, condition=condition, first=add, second=((), 3))
            self.unknown(with_main(one))

    def test_a_condition_from_further_out(self):
        inner = branch(9, 8, ((branch(10, 2, ((step("add", 4, INT, (0, 3)),), 4), ((), 3)),), 10), ((), 3))
        one = function((number(1, 0), less(2, 1, 0), number(3, 1), step("bool", 8, BOOL, (), True), inner), 9, kinds=(INT,))
        self.function_least(one, (0, 0), (), (1, 1))

    def test_one_inside_another(self):
        """What is at least 5 is not replaced by 3 and more. What is 3 and more is no path variable any more."""
        for outer, inner_, peak in ((5, 3, (0, 1)), (3, 5, (2, 1)), (0, 5, (0, 1)), (-3, 5, (0, 1)), (5, 5, (0, 1))):
            cells = (new(8), *[step("ref", 20 + at, ("ref", (INT,), 8), (0,), region=8) for at in range(5)], end(8))
            rows = (number(1, outer), less(2, 0, 1), number(3, inner_), less(4, 0, 3))
            inner = branch(9, 4, ((), 0), (cells, 0))
            one = function((*rows, branch(10, 2, ((), 0), ((inner,), 9))), 10, kinds=(INT,))
            self.function_least(one, peak, (), (0, 1))

    def test_a_greater_least_value_is_known(self):
        """Where n is at least 3 and then at least 5, n less 4 is not negative."""
        rows = (number(1, 3), less(2, 0, 1), number(3, 5), less(4, 0, 3), number(5, 4), number(6, 1))
        rest = ((step("sub", 7, INT, (0, 5)), step("add", 8, INT, (7, 6))), 8)
        for first, known in ((4, True), (2, False)):
            inner = branch(9, first, ((number(11, 0),), 11), rest)
            one = function((*rows, branch(10, 2, ((number(12, 0),), 12), ((inner,), 9))), 10, kinds=(INT,))
            if known:
                self.function_least(one, (0, 0), (), (0, 1))
            else:
                self.unknown(with_main(one))

    def test_in_all_expressions(self):
        """What is held, other bounds and the expressions of the certificate see the new variable, too."""
        rows = (new(8), array(5, 0, 8), number(1, 3), less(2, 0, 1))
        second = ((new(9), step("ref", 6, ("ref", (INT,), 9), (0,), region=9), end(9), end(8)), 0)
        one = function((*rows, branch(10, 2, ((end(8),), 0), second)), 10, kinds=(INT,))
        # n + 1 words and one more: 2 + n.
        self.function_least(one, (2, 1), (), (0, 1))
        # With 2n it need not be 2: where n is 3 + u there are 6 + 2u words.
        self.accepts(with_main(one), (certificate(0, (1, 2)), certificate(1, (0, 0))))
        self.refuses(with_main(one), (certificate(0, (0, 2)), certificate(1, (0, 0))))

    def test_a_smaller_least_value_has_no_effect(self):
        """Where n is at least 5, it stays so if it is at least 3, too."""
        rows = (number(1, 5), less(2, 0, 1), number(3, 3), less(4, 0, 3), number(5, 4), number(6, 1))
        rest = ((step("sub", 7, INT, (0, 5)), step("add", 8, INT, (7, 6))), 8)
        inner = branch(9, 4, ((number(11, 0),), 11), rest)
        one = function((*rows, branch(10, 2, ((number(12, 0),), 12), ((inner,), 9))), 10, kinds=(INT,))
        self.function_least(one, (0, 0), (), (0, 1))

    def test_bounds_that_get_too_great(self):
        """They are unknown from then on: an array has at most 12 elements."""
        same = function((), 0, name="g", kinds=(INT,))
        for constant, words in ((1, None), (2, 13)):
            rows = (number(1, constant), less(2, 0, 1), call(7, (0,), 0))
            value = program(same, main(*rows, branch(11, 2, ((), 0), ((new(8), array(10, 7, 8), end(8)), 0)), value=11))
            # The result is at most 10 ** 12 times n; where n is 2 and more, that is twice 10 ** 12 and more.
            result = certificate(0, (0, 0), (), (0, LIMIT))
            if words is None:
                self.refuses(value, (result, certificate(1, (0, LIMIT))), 1)
            else:
                self.least(value, certificate(0, (0, 0), (), (0, LIMIT))[:4] + (None,), certificate(1, (1, 6)))
                self.accepts(value, (result, certificate(1, (1, 6))))
                self.refuses(value, (result, certificate(1, (0, 6))), 1)

    def test_what_is_held_gets_too_great(self):
        """What a call has added is not compared, but where n is 2 and more it must not be too great."""
        callee = function((end(0),), 0, name="g", kinds=(INT,), formals=1, touch=(0,))
        for constant in (1, 2):
            rows = (number(1, constant), less(2, 0, 1), new(5), call(3, (0,), 0, (5, "keep")))
            value = program(callee, main(*rows, branch(9, 2, ((end(5),), 0), ((end(5),), 0)), value=9))
            given = (certificate(0, (0, 0), ((0, LIMIT),)), certificate(1, (0, 0)))
            if constant == 1:
                self.accepts(value, given)
            else:
                self.refuses(value, given, 1)

    def test_only_a_path_variable_is_replaced(self):
        """Twice n, or n and something, is known to be so much, but nothing is replaced."""
        rows = (number(1, 0), less(2, 1, 0))
        inner_rows = (number(3, 2), step("mul", 4, INT, (0, 3)), number(5, 9), less(6, 4, 5))
        cells = ((new(8), *[pair(20 + at, 8, 0, 0) for at in range(2)], end(8)), 0)
        inner = branch(9, 6, ((), 0), cells)
        one = function((*rows, branch(10, 2, ((*inner_rows, inner), 9), ((), 0))), 10, kinds=(INT,))
        # 0 < n gives 1 + u; 2n is at least 9 does not give more: 4 words are 3 + (1 + u).
        self.accepts(with_main(one), (certificate(0, (3, 1)), certificate(1, (0, 0))))
        self.refuses(with_main(one), (certificate(0, (2, 1)), certificate(1, (0, 0))))

    def test_great_numbers(self):
        """An expression of the certificate must not be too great after a replacement; a bound becomes unknown."""
        rows = (number(1, 2), less(2, 0, 1))
        one = self.body(*rows, condition=2, first=((), 0), second=((), 0))
        half = LIMIT // 2
        self.accepts(with_main(one), (certificate(0, (0, half)), certificate(1, (0, 0))))
        self.refuses(with_main(one), (certificate(0, (1, half)), certificate(1, (0, 0))))
        self.accepts(with_main(one), (certificate(0, (0, 0), (), (0, half)), certificate(1, (0, 0))))
        self.refuses(with_main(one), (certificate(0, (0, 0), (), (0, half + 1)), certificate(1, (0, 0))))
        grows = function((*rows, branch(99, 2, ((end(0),), 0), ((end(0),), 0))), 99, kinds=(INT,), formals=1, touch=(0,))
        self.accepts(with_main(grows), (certificate(0, (0, 0), ((0, half),)), certificate(1, (0, 0))))
        self.refuses(with_main(grows), (certificate(0, (0, 0), ((1, half),)), certificate(1, (0, 0))))


class CaseTest(CertificateTest):
    def over(self, variable, kind, *arms, kinds, before=(), result=INT):
        """A function that looks at a parameter and does nothing else in its region 0."""
        blocks = [block((*steps, end(0)), value, bind) for steps, value, bind in arms]
        return function((number(90, 0), *before, case(99, variable, *blocks, kind=result)), 99, kinds=kinds, result=result, formals=1,
                        touch=(0,))

    def words(self, many, out=20):
        """Steps that make cells with so many words, and end them."""
        return (new(8), *[step("ref", out + at, ("ref", (INT,), 8), (90,), region=8) for at in range(many)], end(8))

    def test_a_list(self):
        """A list with a cell is 3 and its rest and more; without one nothing is known of it."""
        one = self.over(0, LIST, ((), 90, ()), (self.words(3), 90, (1, 2)), kinds=(LIST,))
        self.function_least(one, (0, 1), ((0, 0),), (0, 0))
        one = self.over(0, LIST, (self.words(3), 90, ()), ((), 90, (1, 2)), kinds=(LIST,))
        self.function_least(one, (3, 0), ((0, 0),), (0, 0))
        one = self.over(0, LIST, ((), 90, ()), (self.words(4), 90, (1, 2)), kinds=(LIST,))
        self.function_least(one, (1, 1), ((0, 0),), (0, 0))

    def test_an_empty_list(self):
        """A constructor without fields tells nothing of the size."""
        one = self.over(0, LIST, (self.words(1), 90, ()), ((), 90, (1, 2)), kinds=(LIST,))
        self.function_least(one, (1, 0), ((0, 0),), (0, 0))
        self.refuses(with_main(one), (certificate(0, (0, 5), ((0, 0),)), certificate(1, (0, 0))))

    def test_fields_have_variables_of_their_own(self):
        """All parts together are not larger than the whole, less the cell; no part is more than that."""
        measure = function((number(90, 0), end(0)), 90, name="g", kinds=(LIST,), formals=1, touch=(0,))
        for used in ((11, 12, 14), (11, 11, 14), (14, 14, 14), (12, 12, 11)):
            calls = [call(5 + at, (variable,), 0, (0, "keep")) for at, variable in enumerate(used)]
            rows = (number(90, 0), case(99, 0, block((*calls, end(0)), 90, (11, 12, 13, 14))))
            one = function(rows, 99, kinds=(("data", 3, 0), INT), formals=1, touch=(0,))
            value = program(measure, one, main(), datas=with_main()[0])
            most = max(used.count(variable) for variable in used)
            # g adds as many words as its list is large.
            full = (0, most, 0)
            self.accepts(value, (certificate(0, (0, 1), ((0, 1),)), certificate(1, full, (full,)), certificate(2, (0, 0))))
            for peak, growth in (((0, most - 1, 5), full), (full, (0, most - 1, 5))):
                self.refuses(value, (certificate(0, (0, 1), ((0, 1),)), certificate(1, peak, (growth,)), certificate(2, (0, 0))), 1)

    def test_a_tree(self):
        """A node is 4 and its two parts and more."""
        measure = function((number(90, 0), end(0)), 90, name="g", kinds=(TREE,), formals=1, touch=(0,))
        one = function((number(90, 0), case(99, 0, block((end(0),), 90), block((
            call(5, (1,), 0, (0, "keep")), call(6, (3,), 0, (0, "last"))), 90, (1, 2, 3)))), 99, kinds=(TREE,), formals=1, touch=(0,))
        value = program(measure, one, main(), datas=with_main()[0])
        # g adds as many words as its tree is large: both parts together are not larger than the tree.
        self.accepts(value, (certificate(0, (0, 1), ((0, 1),)), certificate(1, (0, 1), ((0, 1),)), certificate(2, (0, 0))))
        self.refuses(value, (certificate(0, (0, 2), ((0, 2),)), certificate(1, (0, 1), ((0, 2),)), certificate(2, (0, 0))), 1)

    def test_the_fields(self):
        """Integers and arrays are unknown, booleans and references 0, and tuples and data have a variable each."""
        arms = [((), 90, bind) for bind in ((1, 2), (3, 4), (5, 6), (7,))]
        for number_, value, size, kind in ((0, 1, None, INT), (0, 2, (0, 0), BOOL), (1, 3, None, ARRAY), (1, 4, (0, 1), LIST),
                                           (2, 5, (0, 1), in_pair(0)), (2, 6, (0, 0), ("ref", (INT,), 0)), (3, 7, (0, 0), UNIT)):
            blocks = [block((step("raise", 50 + at, kind, (90,), 0), end(0)), 50 + at, arm[2]) for at, arm in enumerate(arms)]
            blocks[number_] = block((end(0),), value, arms[number_][2])
            one = function((number(90, 0), case(99, 0, *blocks, kind=kind)), 99, kinds=(MIX,), result=kind, formals=1, touch=(0,))
            if size is None:
                self.unknown(with_main(one), (0, 0), ((0, 0),))
                self.accepts(with_main(one), (certificate(0, (0, 0), ((0, 0),)), certificate(1, (0, 0))))
            else:
                self.function_least(one, (0, 0), ((0, 0),), size)

    def test_what_the_fields_pay_for(self):
        """1 + n for n fields, also where no field is a tuple or of a data kind."""
        for number_, many in ((0, 3), (1, 3), (2, 3), (3, 2)):
            arms = [((), 90, bind) for bind in ((1, 2), (3, 4), (5, 6), (7,))]
            arms[number_] = (self.words(many), 90, arms[number_][2])
            self.function_least(self.over(0, MIX, *arms, kinds=(MIX,)), (0, 1), ((0, 0),), (0, 0))
            arms[number_] = (self.words(many + 1), 90, arms[number_][2])
            self.function_least(self.over(0, MIX, *arms, kinds=(MIX,)), (1, 1), ((0, 0),), (0, 0))

    def test_another_expression(self):
        """Where the bound is no path variable, the fields have it less 1 + n."""
        cons = step("make", 7, LIST, (90, 0), 1, region=0)
        nil, rest = (step("make", 8, LIST, (), 0), end(0)), (end(0),)
        rows = (number(90, 0), cons, case(99, 7, block(nil, 8), block(rest, 2, (1, 2)), kind=LIST))
        one = function(rows, 99, kinds=(LIST,), result=LIST, formals=1, touch=(0,))
        self.function_least(one, (3, 0), ((3, 0),), (0, 1))
        twice = (number(90, 0), cons, step("make", 9, LIST, (90, 7), 1, region=0),
                 case(99, 9, block(nil, 8), block(rest, 2, (1, 2)), kind=LIST))
        one = function(twice, 99, kinds=(LIST,), result=LIST, formals=1, touch=(0,))
        self.function_least(one, (6, 0), ((6, 0),), (3, 1))

    def test_not_below_0(self):
        nil = step("make", 7, LIST, (), 0)
        rows = (number(90, 0), nil, case(99, 7, block((step("make", 8, LIST, (), 0), end(0)), 8), block((end(0),), 2, (1, 2)), kind=LIST))
        one = function(rows, 99, kinds=(LIST,), result=LIST, formals=1, touch=(0,))
        self.function_least(one, (0, 0), ((0, 0),), (0, 0))

    def test_an_unknown_bound(self):
        rows = (number(90, 0), step("deref", 7, LIST, (0,)),
                case(99, 7, block((step("make", 8, LIST, (), 0), end(0)), 8), block((end(0),), 2, (1, 2)), kind=LIST))
        one = function(rows, 99, kinds=(("ref", (LIST,), 0),), result=LIST, formals=1, touch=(0,))
        self.accepts(with_main(one), (certificate(0, (0, 0), ((0, 0),)), certificate(1, (0, 0))))
        self.unknown(with_main(one), (0, 0), ((0, 0),))

    def test_a_path_variable_of_a_path_variable(self):
        """A list of two cells: the rest of the rest pays for three words again."""
        inner = case(98, 2, block((end(0),), 90), block((*self.words(6), end(0)), 90, (3, 4)))
        rows = (number(90, 0), case(99, 0, block((end(0),), 90), block((inner,), 98, (1, 2))))
        self.function_least(function(rows, 99, kinds=(LIST,), formals=1, touch=(0,)), (0, 1), ((0, 0),), (0, 0))
        inner = case(98, 0, block((end(0),), 90), block((*self.words(6), end(0)), 90, (3, 4)))
        rows = (number(90, 0), case(99, 0, block((end(0),), 90), block((inner,), 98, (1, 2))))
        # Looked at once more, the list is no path variable any more.
        self.function_least(function(rows, 99, kinds=(LIST,), formals=1, touch=(0,)), (3, 1), ((0, 0),), (0, 0))

    def test_two_variables_with_one_bound(self):
        """A part of a tuple has the bound of the tuple; both are replaced together."""
        kind = ("tuple", (INT, LIST), 0)
        inner = case(99, 1, block((end(0),), 90), block((*self.words(3), end(0)), 90, (2, 3)))
        rows = (number(90, 0), step("get", 1, LIST, (0,), 1), inner)
        self.function_least(function(rows, 99, kinds=(kind,), formals=1, touch=(0,)), (0, 1), ((0, 0),), (0, 0))


class JoinTest(CertificateTest):
    def joined(self, first, second, *behind, value=0, region=0, kind=INT, **more):
        """A function in which an if is followed by other steps; the condition is nothing that is known."""
        yes = step("bool", 90, BOOL, (), True)
        return function((yes, branch(91, 90, first, second, kind=kind), *behind), value, kinds=(INT,), **more)

    def test_what_is_held(self):
        """The greatest of what the blocks hold, for each region by itself."""
        rows = ((pair(1, 5), pair(2, 6), pair(3, 6)), 0), ((pair(4, 5), pair(7, 5), pair(8, 5), pair(9, 6)), 0)
        yes = step("bool", 90, BOOL, (), True)
        one = function((yes, new(5), new(6), branch(91, 90, *rows), pair(10, 5), end(5), end(6)), 0, kinds=(INT,))
        # 6 of the one and 4 of the other, and 2 behind; 8 in a block.
        self.function_least(one, (12, 0), (), (0, 1))

    def test_what_was_held_before(self):
        yes = step("bool", 90, BOOL, (), True)
        rows = (yes, new(5), pair(1, 5), branch(91, 90, ((), 0), ((), 0)), pair(2, 5), end(5))
        self.function_least(function(rows, 0, kinds=(INT,)), (4, 0), (), (0, 1))

    def test_what_was_consumed(self):
        yes = step("bool", 90, BOOL, (), True)
        rows = (yes, new(5), new(6), pair(1, 5), pair(2, 6), branch(91, 90, ((end(5),), 0), ((pair(3, 5), end(5)), 0)), pair(4, 6), end(6))
        self.function_least(function(rows, 0, kinds=(INT,)), (6, 0), (), (0, 1))

    def test_what_has_grown(self):
        one = self.joined(((pair(1, 0),), 0), ((pair(2, 1), pair(3, 1)), 0), pair(4, 0), end(0), end(1), formals=2, touch=(0, 1))
        self.function_least(one, (8, 0), ((4, 0), (4, 0)), (0, 1))

    def test_the_result(self):
        one = self.joined(((), 0), ((number(2, 5),), 2), value=91)
        yes = step("bool", 90, BOOL, (), True)
        one = function((yes, branch(91, 90, ((), 0), ((number(2, 5),), 2)), step("print", 3, UNIT, (0,))), 91, kinds=(INT,))
        self.function_least(one, (0, 0), (), (5, 1))
        one = function((yes, branch(91, 90, ((step("div", 1, INT, (0, 0)),), 1), ((number(2, 5),), 2)), step("print", 3, UNIT, (0,))),
                       91, kinds=(INT,))
        self.unknown(with_main(one))

    def test_the_least_value_of_the_result(self):
        yes = step("bool", 90, BOOL, (), True)
        for first, second, known in ((5, 3, True), (0, 0, True), (5, -1, False), (-1, 5, False)):
            rows = (yes, branch(91, 90, ((number(1, first),), 1), ((number(2, second),), 2)), number(3, 1), step("add", 4, INT, (91, 3)))
            one = function(rows, 4, kinds=(INT,))
            if known:
                self.function_least(one, (0, 0), (), (1 + max(first, second), 0))
            else:
                self.unknown(with_main(one))
        # Unknown in one block, and no constant behind it even if both are the same.
        rows = (yes, branch(91, 90, ((number(1, 4),), 1), ((), 0)), number(3, 1), step("add", 4, INT, (91, 3)))
        self.unknown(with_main(function(rows, 4, kinds=(INT,))))
        rows = (yes, branch(91, 90, ((number(1, 4),), 1), ((number(2, 4),), 2)), step("mul", 4, INT, (91, 91)))
        self.unknown(with_main(function(rows, 4, kinds=(INT,))))

    def test_a_raise_joins_with_anything(self):
        yes = step("bool", 90, BOOL, (), True)
        rows = (yes, branch(91, 90, ((step("raise", 1, INT, (0,), 0),), 1), ((number(2, 4),), 2)), number(3, 1), step("add", 4, INT, (91, 3)))
        self.function_least(function(rows, 4, kinds=(INT,)), (0, 0), (), (5, 0))

    def test_path_variables_are_removed(self):
        """Behind an if in which n is 3 + u, what was held in terms of u is held in terms of n."""
        rows = (new(5), number(1, 3), less(2, 0, 1), branch(9, 2, ((), 0), ((array(6, 0, 5),), 0)), pair(7, 5), end(5))
        # 1 + (3 + u) words are 1 + n.
        self.function_least(function(rows, 0, kinds=(INT,)), (3, 1), (), (0, 1))

    def test_the_constant_is_reduced(self):
        """Twice 1 + u less a constant is less than twice n: the constant does not get below 0."""
        first = ((number(3, 1), step("sub", 4, INT, (0, 3)), array(6, 4, 5)), 4)
        rows = (new(5), number(1, 0), less(2, 1, 0), branch(9, 2, first, ((number(8, 0),), 8)), pair(7, 5), end(5))
        # Behind the block 1 + u is held, which is n; then 2 words more.
        self.function_least(function(rows, 0, kinds=(INT,)), (2, 1), (), (0, 1))
        self.function_least(function(rows, 9, kinds=(INT,)), (2, 1), (), (0, 1))

    def test_several_path_variables(self):
        """Of a list that was looked at, the greatest coefficient counts."""
        adds = function((number(8, 0), end(1)), 8, name="g", kinds=(LIST,), formals=2, touch=(1,))
        rows = (number(90, 0), case(91, 0, block((), 90), block((call(5, (2,), 0, (0, "none"), (1, "keep")),), 90, (1, 2))),
                pair(7, 1, 90, 90), end(0), end(1))
        one = function(rows, 90, kinds=(LIST,), formals=2, touch=(0, 1))
        value = program(adds, one, main(), datas=with_main()[0])
        # g adds twice its list to region 1: behind the case that is twice the whole list, less 6 words.
        given = (certificate(0, (0, 0), ((0, 2),)), certificate(1, (2, 2), ((0, 0), (2, 2))), certificate(2, (0, 0)))
        self.accepts(value, given)
        for changed in (certificate(1, (2, 1), ((0, 0), (2, 2))), certificate(1, (1, 2), ((0, 0), (2, 2))),
                        certificate(1, (2, 2), ((0, 0), (1, 2))), certificate(1, (2, 2), ((0, 0), (2, 1)))):
            self.refuses(value, (given[0], changed, given[2]), 1)
        # What g adds besides is not more than what the cell has less: 6 words go by, the 7th does not.
        for more, constant in ((6, 0), (7, 1)):
            given = (certificate(0, (0, 0), ((more, 2),)), certificate(1, (2 + constant, 2), ((0, 0), (2 + constant, 2))),
                     certificate(2, (0, 0)))
            self.accepts(value, given)
            self.refuses(value, (given[0], certificate(1, (1 + constant, 2), ((0, 0), (2 + constant, 2))), given[2]), 1)

    def test_an_unknown_value_of_a_block(self):
        """Also where a path variable was replaced in the block."""
        rows = (number(1, 0), less(2, 1, 0), branch(9, 2, ((step("div", 3, INT, (0, 0)),), 3), ((), 1)), step("print", 8, UNIT, (0,)))
        self.unknown(with_main(function(rows, 9, kinds=(INT,))))

    def test_the_sum_of_what_is_joined(self):
        """It must not be too great even if in each block it is not."""
        yes = step("bool", 90, BOOL, (), True)
        callee = function((end(0),), 0, name="g", kinds=(INT,), formals=1, touch=(0,))
        for words, refused in ((LIMIT // 2, False), (LIMIT // 2 + 1, True)):
            rows = (yes, new(5), new(6), branch(91, 90, ((call(1, (0,), 0, (5, "keep")),), 1), ((call(2, (0,), 0, (6, "keep")),), 2)),
                    end(5), end(6))
            value = program(callee, main(*rows))
            given = (certificate(0, (0, 0), ((words, 0),)), certificate(1, (0, 0)))
            if refused:
                self.refuses(value, given, 1)
            else:
                self.accepts(value, given)

    def test_a_final_step_is_not_joined(self):
        yes = step("bool", 90, BOOL, (), True)
        callee = function((end(0),), 0, name="g", kinds=(INT,), formals=1, touch=(0,))
        first = ((call(1, (0,), 0, (0, "keep")), end(0), end(1)), 1)
        second = ((call(2, (0,), 0, (1, "keep")), end(0), end(1)), 2)
        given = (certificate(0, (0, 0), ((LIMIT, 0),)), certificate(1, (0, 0), ((LIMIT, 0), (LIMIT, 0))), certificate(2, (0, 0)))
        one = function((yes, branch(91, 90, first, second)), 91, name="f", kinds=(INT,), formals=2, touch=(0, 1))
        self.accepts(program(callee, one, main()), given)
        # It does not define the value, so it is not final.
        one = function((yes, branch(91, 90, first, second)), 0, name="f", kinds=(INT,), formals=2, touch=(0, 1))
        self.refuses(program(callee, one, main()), given, 1)

    def test_what_is_known_is_as_before(self):
        """Behind the blocks nothing is known of n again."""
        rows = (number(1, 0), less(2, 1, 0), branch(9, 2, ((), 0), ((), 0)), number(3, 1), step("add", 4, INT, (0, 3)))
        self.unknown(with_main(function(rows, 4, kinds=(INT,))))

    def test_a_last_step_that_does_not_define_the_value(self):
        """It is not final: the blocks are joined, and the value is compared behind it."""
        rows = (number(1, 0), less(2, 1, 0), branch(9, 2, ((), 0), ((number(3, 5),), 3)))
        self.function_least(function(rows, 0, kinds=(INT,)), (0, 0), (), (0, 1))


class FinalTest(CertificateTest):
    def test_each_block_is_compared(self):
        """On its path: where n is at least 5, a size of n is enough for 5, and elsewhere it is not."""
        rows = (number(1, 5), less(2, 0, 1))
        one = function((*rows, branch(9, 2, ((number(3, 0),), 3), ((number(4, 5),), 4))), 9, kinds=(INT,))
        self.function_least(one, (0, 0), (), (0, 1))
        one = function((*rows, branch(9, 2, ((number(3, 5),), 3), ((number(4, 0),), 4))), 9, kinds=(INT,))
        self.function_least(one, (0, 0), (), (5, 0))

    def test_not_final(self):
        """With a step behind it, what the blocks give is joined: 5 is 5 then."""
        rows = (number(1, 5), less(2, 0, 1), branch(9, 2, ((number(3, 0),), 3), ((number(4, 5),), 4)))
        one = function((*rows, step("print", 8, UNIT, (0,))), 9, kinds=(INT,))
        self.function_least(one, (0, 0), (), (5, 0))

    def test_final_steps_in_final_steps(self):
        rows = (number(1, 5), less(2, 0, 1), number(3, 8), less(4, 0, 3))
        inner = branch(7, 4, ((number(5, 5),), 5), ((number(6, 8),), 6))
        one = function((*rows, branch(9, 2, ((number(8, 0),), 8), ((inner,), 7))), 9, kinds=(INT,))
        # In the innermost block n is 5 and more, as a bound: 8 are 3 more than that.
        self.function_least(one, (0, 0), (), (3, 1))

    def test_in_a_handle(self):
        """The arms are blocks of a final step, the body is not."""
        def handle(body, normal, arm):
            return step("handle", 9, INT, (), (0,), blocks=(block(*body), block(*normal, (5,)), block(*arm, (6,))))

        rows = (number(1, 5), less(2, 0, 1))
        test = branch(7, 2, ((number(3, 0),), 3), ((number(4, 5),), 4))
        self.function_least(function((*rows, handle(((test,), 7), ((), 5), ((), 1))), 9, kinds=(INT,)), (0, 0), (), (5, 0))
        one = function((*rows, handle(((), 0), ((test,), 7), ((number(8, 0),), 8))), 9, kinds=(INT,))
        self.function_least(one, (0, 0), (), (0, 1))
        one = function((*rows, handle(((), 0), ((number(8, 0),), 8), ((test,), 7))), 9, kinds=(INT,))
        self.function_least(one, (0, 0), (), (0, 1))

    def test_the_body_of_a_handle_is_not_compared(self):
        """Its value may be unknown or too large if the normal arm does not give it."""
        body = block((step("div", 1, INT, (0, 0)),), 1)
        rows = (step("handle", 9, INT, (), (), blocks=(body, block((number(3, 2),), 3, (2,)))),)
        self.function_least(function(rows, 9, kinds=(INT,)), (0, 0), (), (2, 0))


class HandleTest(CertificateTest):
    def handle(self, body, *arms, kept=(), numbers=(0,)):
        return step("handle", 9, INT, (), numbers, use=kept, blocks=(block(*body), *arms))

    def test_the_normal_arm(self):
        """Its variable has the bound, the least value and the constant of the body's value."""
        add = block((number(3, 1), step("add", 4, INT, (2, 3))), 4, (2,))
        self.function_least(function((self.handle(((number(1, 4),), 1), add, numbers=()),), 9, kinds=(INT,)), (0, 0), (), (5, 0))
        times = block((step("mul", 4, INT, (2, 2)),), 4, (2,))
        self.function_least(function((self.handle(((number(1, 4),), 1), times, numbers=()),), 9, kinds=(INT,)), (0, 0), (), (16, 0))
        one = function((self.handle(((), 0), add, numbers=()),), 9, kinds=(INT,))
        self.unknown(with_main(one))
        one = function((self.handle(((), 0), block((), 2, (2,)), numbers=()),), 9, kinds=(INT,))
        self.function_least(one, (0, 0), (), (0, 1))
        one = function((self.handle(((step("div", 1, INT, (0, 0)),), 1), block((), 2, (2,)), numbers=()),), 9, kinds=(INT,))
        self.unknown(with_main(one))

    def test_the_other_arms(self):
        """Nothing is known of their variable."""
        one = function((self.handle(((), 0), block((), 2, (2,)), block((), 3, (3,))),), 9, kinds=(INT,))
        self.unknown(with_main(one))
        self.accepts(with_main(one), (certificate(0, (0, 0)), certificate(1, (0, 0))))
        arm = block((new(8), array(4, 3, 8), end(8)), 0, (3,))
        self.function_least(function((self.handle(((), 0), block((), 2, (2,)), arm),), 9, kinds=(INT,)), (13, 0), (), (0, 1))

    def test_what_is_held_in_the_arms(self):
        """What the body made in a kept region is held in every arm."""
        rows = (new(5), self.handle(((pair(1, 5),), 0), block((pair(4, 5), end(5)), 2, (2,)), block((pair(6, 5), pair(7, 5), end(5)),
                                                                                             0, (3,)), kept=(5,)))
        self.function_least(function(rows, 9, kinds=(INT,)), (6, 0), (), (0, 1))

    def test_what_has_grown_in_the_body(self):
        rows = (self.handle(((pair(1, 0),), 0), block((end(0),), 2, (2,)), block((pair(6, 0), pair(7, 0), end(0)), 0, (3,)), kept=(0,)),)
        one = function(rows, 9, kinds=(INT,), formals=1, touch=(0,))
        self.function_least(one, (6, 0), ((6, 0),), (0, 1))
        self.function_least(one, (6, 0, 1), (), (0, 1, 0), mine=(0,))

    def test_a_region_of_the_body(self):
        """It is not held in the arms: an exception ends it, and so does the body's end."""
        rows = (self.handle(((new(5), pair(1, 5), end(5)), 0), block((new(6), pair(4, 6), end(6)), 2, (2,)),
                            block((new(7), pair(6, 7), end(7)), 0, (3,))),)
        self.function_least(function(rows, 9, kinds=(INT,)), (2, 0), (), (0, 1))

    def test_joined(self):
        rows = (new(5), self.handle(((pair(1, 5),), 0), block((pair(4, 5),), 2, (2,)), block((pair(6, 5), pair(7, 5)), 0, (3,)),
                                    kept=(5,)), pair(8, 5), end(5))
        self.function_least(function(rows, 0, kinds=(INT,)), (8, 0), (), (0, 1))
        rows = (self.handle(((), 0), block((number(4, 7),), 4, (2,)), block((number(6, 3),), 6, (3,))), number(7, 1),
                step("add", 8, INT, (9, 7)))
        self.function_least(function(rows, 8, kinds=(INT,)), (0, 0), (), (8, 0))

    def test_what_the_body_learned_is_forgotten(self):
        rows = (number(1, 0), less(2, 1, 0), self.handle(((branch(8, 2, ((), 0), ((), 0)),), 8), block((
            number(4, 1), step("add", 5, INT, (0, 4))), 5, (3,)), numbers=()))
        one = function(rows, 9, kinds=(INT,))
        self.unknown(with_main(one))


if __name__ == "__main__":
    unittest.main()
