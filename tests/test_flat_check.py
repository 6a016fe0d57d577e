"""Each condition of the check of flat programs: a program that only it refuses, and the path that is due."""

import unittest

from escheat import flat, place
from escheat.errors import EscheatError, FlatError
from tests.helpers import BOOL, FIRST, INT, UNIT, deep, replace
from tests.programs import PAIR, block, flat_fault, function, main_of, number, program, step

FN = ("fn", (INT, BOOL), 0)
REF = ("ref", (INT,), 0)
ARRAY = ("array", (INT,), 0)
LIST = ("data", 0, 0)
LISTS = (("list", (("Nil", ()), ("Cons", (INT, LIST)))),)

# Values of every kind, as variables 1 to 7; the parameter 0 is an int. FRONT is their number.
VALUES = (
    step("bool", 1, BOOL, (), True), step("unit", 2, UNIT), step("tuple", 3, PAIR, (0, 0)),
    step("ref", 4, REF, (0,)), step("array", 5, ARRAY, (0, 0)), step("make", 6, LIST, (), 0),
    step("fn", 8, FN, blocks=(block((), 1, (7,)),)),
)
FRONT = len(VALUES)


class FlatCheckTest(unittest.TestCase):
    def check(self, value, path):
        self.assertEqual(flat_fault(value), path)
        for judge in (lambda: flat.run(value, (1,)), lambda: place.find(value), lambda: place.coarse(value),
                      lambda: place.build(value)):
            if path is None:
                judge()
            else:
                with self.assertRaises(FlatError) as caught:
                    judge()
                self.assertEqual(caught.exception.path, path)
                self.assertIsInstance(caught.exception, EscheatError)

    def accept_step(self, *steps):
        self.check(self.with_values(*steps), None)

    def refuse_step(self, *steps):
        """Check that the last step is refused."""
        self.check(self.with_values(*steps), (0, FRONT + len(steps) - 1))

    def with_values(self, *steps):
        return main_of(VALUES + steps, 0, datas=LISTS)


class StepTest(FlatCheckTest):
    """Steps from the table; the new variable is 9."""

    def test_values_are_right(self):
        self.check(self.with_values(), None)

    def test_literals(self):
        for value in (-2147483648, 2147483647, 0):
            self.accept_step(number(9, value))
        for value in (-2147483649, 2147483648, True, None, "1", (), (1,), 10 ** 40):
            self.refuse_step(step("int", 9, INT, (), value))
        self.refuse_step(step("int", 9, BOOL, (), 1))
        self.refuse_step(step("int", 9, INT, (0,), 1))
        self.accept_step(step("bool", 9, BOOL, (), False))
        for value in (0, 1, None, "True", ()):
            self.refuse_step(step("bool", 9, BOOL, (), value))
        self.refuse_step(step("bool", 9, INT, (), True))
        self.refuse_step(step("unit", 9, UNIT, (), ()))
        self.refuse_step(step("unit", 9, UNIT, (), False))
        self.refuse_step(step("unit", 9, INT))
        self.refuse_step(step("unit", 9, UNIT, (0,)))
        self.accept_step(step("unit", 9, UNIT))

    def test_make(self):
        self.accept_step(step("make", 9, LIST, (0, 6), 1))
        for ins, info in (((6, 0), 1), ((0,), 1), ((0, 6, 6), 1), ((), 1), ((0, 6), 0), ((), 2), ((), -1), ((), True),
                          ((), False), ((0, 6), True), ((), None), ((), "Nil"), ((), (0,))):
            self.refuse_step(step("make", 9, LIST, ins, info))
        self.refuse_step(step("make", 9, INT, (), 0))
        self.refuse_step(step("make", 9, ("data", 1, 0), (), 0))

    def test_tuple(self):
        self.accept_step(step("tuple", 9, ("tuple", (INT, BOOL, PAIR), 0), (0, 1, 3)))
        self.accept_step(step("tuple", 9, ("tuple", (INT,) * 6, 0), (0,) * 6))
        self.refuse_step(step("tuple", 9, ("tuple", (INT,) * 7, 0), (0,) * 7))
        self.refuse_step(step("tuple", 9, PAIR, (0,)))
        self.refuse_step(step("tuple", 9, PAIR, ()))
        self.refuse_step(step("tuple", 9, PAIR, (0, 1)))
        self.refuse_step(step("tuple", 9, PAIR, (0, 0, 0)))
        self.refuse_step(step("tuple", 9, PAIR, (0, 0), 0))
        self.refuse_step(step("tuple", 9, INT, (0, 0)))

    def test_get(self):
        self.accept_step(step("get", 9, INT, (3,), 1))
        for info in (2, -1, None, True, False, "0", (0,)):
            self.refuse_step(step("get", 9, INT, (3,), info))
        self.refuse_step(step("get", 9, BOOL, (3,), 0))
        self.refuse_step(step("get", 9, INT, (), 0))
        self.refuse_step(step("get", 9, INT, (3, 3), 0))
        for variable in (0, 4, 5, 6, 8):
            self.refuse_step(step("get", 9, INT, (variable,), 0))

    def test_apply(self):
        self.accept_step(step("apply", 9, BOOL, (8, 0)))
        for ins, kind in (((8, 0), INT), ((8, 1), BOOL), ((8,), BOOL), ((8, 0, 0), BOOL), ((0, 8), BOOL), ((3, 0), INT),
                          ((0, 0), INT)):
            self.refuse_step(step("apply", 9, kind, ins))
        self.refuse_step(step("apply", 9, BOOL, (8, 0), 0))

    def test_refs(self):
        self.accept_step(step("ref", 9, ("ref", (REF,), 0), (4,)))
        self.refuse_step(step("ref", 9, REF, (1,)))
        self.refuse_step(step("ref", 9, ARRAY, (0,)))
        self.refuse_step(step("ref", 9, REF, ()))
        self.refuse_step(step("ref", 9, REF, (0, 0)))
        self.refuse_step(step("ref", 9, REF, (0,), 1))
        self.accept_step(step("deref", 9, INT, (4,)))
        self.refuse_step(step("deref", 9, BOOL, (4,)))
        self.refuse_step(step("deref", 9, INT, (5,)))
        self.refuse_step(step("deref", 9, INT, (0,)))
        self.refuse_step(step("deref", 9, INT, (4, 4)))
        self.accept_step(step("set", 9, UNIT, (4, 0)))
        self.refuse_step(step("set", 9, INT, (4, 0)))
        self.refuse_step(step("set", 9, UNIT, (4, 1)))
        self.refuse_step(step("set", 9, UNIT, (5, 0)))
        self.refuse_step(step("set", 9, UNIT, (4,)))
        self.refuse_step(step("set", 9, UNIT, (4, 0), 3))

    def test_arrays(self):
        self.accept_step(step("array", 9, ("array", (BOOL,), 0), (0, 1)))
        self.refuse_step(step("array", 9, ARRAY, (0, 1)))
        self.refuse_step(step("array", 9, ARRAY, (1, 0)))
        self.refuse_step(step("array", 9, REF, (0, 0)))
        self.refuse_step(step("array", 9, ARRAY, (0,)))
        self.accept_step(step("at", 9, INT, (5, 0)))
        self.refuse_step(step("at", 9, BOOL, (5, 0)))
        self.refuse_step(step("at", 9, INT, (5, 1)))
        self.refuse_step(step("at", 9, INT, (4, 0)))
        self.refuse_step(step("at", 9, INT, (0, 0)))
        self.refuse_step(step("at", 9, INT, (5,)))
        self.accept_step(step("put", 9, UNIT, (5, 0, 0)))
        self.refuse_step(step("put", 9, INT, (5, 0, 0)))
        self.refuse_step(step("put", 9, UNIT, (5, 0, 1)))
        self.refuse_step(step("put", 9, UNIT, (5, 1, 0)))
        self.refuse_step(step("put", 9, UNIT, (4, 0, 0)))
        self.refuse_step(step("put", 9, UNIT, (5, 0)))
        self.accept_step(step("len", 9, INT, (5,)))
        self.refuse_step(step("len", 9, BOOL, (5,)))
        self.refuse_step(step("len", 9, INT, (4,)))
        self.refuse_step(step("len", 9, INT, ()))

    def test_raise_and_print(self):
        self.accept_step(step("raise", 9, PAIR, (0,), 2))
        for info in (3, -1, None, True, False, "Div", (0,)):
            self.refuse_step(step("raise", 9, PAIR, (0,), info))
        self.refuse_step(step("raise", 9, INT, (1,), 0))
        self.refuse_step(step("raise", 9, INT, (), 0))
        self.refuse_step(step("raise", 9, ("data", 1, 0), (0,), 0))
        self.accept_step(step("print", 9, UNIT, (0,)))
        self.refuse_step(step("print", 9, INT, (0,)))
        self.refuse_step(step("print", 9, UNIT, (1,)))
        self.refuse_step(step("print", 9, UNIT, (0, 0)))

    def test_operations(self):
        for op in ("add", "sub", "mul", "div", "rem", "equal", "less"):
            right, wrong = (BOOL, INT) if op in ("equal", "less") else (INT, BOOL)
            self.accept_step(step(op, 9, right, (0, 0)))
            self.refuse_step(step(op, 9, wrong, (0, 0)))
            self.refuse_step(step(op, 9, right, (0, 1)))
            self.refuse_step(step(op, 9, right, (1, 0)))
            self.refuse_step(step(op, 9, right, (0,)))
            self.refuse_step(step(op, 9, right, (0, 0, 0)))
            self.refuse_step(step(op, 9, right, (0, 0), 0))
            self.refuse_step(step(op, 9, right, (0, 0), blocks=(block((), 0),)))

    def test_unknown_ops(self):
        for op in ("", "let", "name", "seq", "mod", "ADD", "touch", "a" * 300):
            self.refuse_step(step(op, 9, INT, (0, 0)))

    def test_new_and_end(self):
        self.refuse_step(step("new", 9, UNIT))
        self.refuse_step(step("end", 9, UNIT))
        # A number below 0 is not the form of a variable.
        self.check(self.with_values(step("new", -1, UNIT)), ())

    def test_calls(self):
        first = function((), 1, kinds=(INT, BOOL), result=BOOL)
        for info, ins, kind, right in (
            (0, (0, 1), BOOL, True), (0, (0, 1), INT, False), (0, (1, 0), BOOL, False), (0, (0,), BOOL, False),
            (0, (0, 1, 1), BOOL, False), (1, (0,), INT, True), (1, (1,), INT, False), (2, (0,), INT, False),
            (-1, (0,), INT, False), (None, (0,), INT, False), (True, (0,), INT, False), (False, (0, 1), BOOL, False),
            ("f", (0,), INT, False),
        ):
            value = program(first, main_of(VALUES + (step("call", 9, kind, ins, info),), 0)[2][0], datas=LISTS)
            self.check(value, None if right else (1, FRONT))

    def test_calls_go_up_only(self):
        call = step("call", 1, INT, (0,), 1)
        value = program(function((call,), 1, kinds=(INT,)), function((), 0, kinds=(INT,)),
                        function((), 0, name="main", kinds=(INT,)))
        self.check(value, (0, 0))
        self.check(replace(value, (2, 0, 5, 1, 0, 4), 0), None)
        self.check(replace(replace(value, (2, 0), value[2][1]), (2, 1), value[2][0]), None)


class BlocksTest(FlatCheckTest):
    """Steps with blocks: behind VALUES, with the variables 9 and so on."""

    def test_if(self):
        def branch(*, kind=INT, ins=(1,), info=None, blocks=(block((), 0), block((number(10),), 10))):
            return step("if", 9, kind, ins, info, blocks=blocks)

        self.accept_step(branch())
        self.refuse_step(branch(ins=(0,)))
        self.refuse_step(branch(ins=()))
        self.refuse_step(branch(ins=(1, 1)))
        self.refuse_step(branch(info=0))
        self.refuse_step(branch(blocks=(block((), 0),)))
        self.refuse_step(branch(blocks=(block((), 0),) * 3))
        self.refuse_step(branch(blocks=()))
        self.refuse_step(branch(blocks=(block((), 0, (10,)), block((), 0))))
        self.refuse_step(branch(blocks=(block((), 0), block((), 0, (10,)))))
        self.check(self.with_values(branch(kind=BOOL)), (0, FRONT, 0))
        self.check(self.with_values(branch(blocks=(block((), 0), block((), 1)))), (0, FRONT, 1))
        self.check(self.with_values(branch(blocks=(block((), 0), block((), 10)))), (0, FRONT, 1))
        self.check(self.with_values(branch(blocks=(block((), 9), block((), 0)))), (0, FRONT, 0))

    def test_case(self):
        arms = (block((), 0), block((step("add", 12, INT, (10, 0)),), 12, (10, 11)))

        def case(*, kind=INT, ins=(6,), info=None, blocks=arms):
            return step("case", 9, kind, ins, info, blocks=blocks)

        self.accept_step(case())
        for variable in (0, 1, 3, 8):
            self.refuse_step(case(ins=(variable,)))
        self.refuse_step(case(ins=()))
        self.refuse_step(case(ins=(6, 6)))
        self.refuse_step(case(info=0))
        self.refuse_step(case(blocks=arms[:1]))
        self.refuse_step(case(blocks=arms + arms[:1]))
        self.refuse_step(case(blocks=(arms[1], arms[0])))
        self.refuse_step(case(blocks=(arms[0], block((), 0, (10,)))))
        self.refuse_step(case(blocks=(arms[0], block((), 0, (10, 11, 12)))))
        self.refuse_step(case(blocks=(arms[0], block((), 0, (10, 10)))))
        self.refuse_step(case(blocks=(arms[0], block((), 0, (10, 3)))))
        self.check(self.with_values(case(blocks=(arms[0], block((), 11, (10, 11))))), (0, FRONT, 1))
        self.check(self.with_values(case(kind=LIST, blocks=(block((), 6), block((), 11, (10, 11))))), None)
        self.check(self.with_values(case(kind=BOOL)), (0, FRONT, 0))

    def test_fn(self):
        def make(*, kind=FN, ins=(), info=None, blocks=(block((step("less", 11, BOOL, (10, 0)),), 11, (10,)),)):
            return step("fn", 9, kind, ins, info, blocks=blocks)

        self.accept_step(make())
        self.refuse_step(make(kind=BOOL))
        self.refuse_step(make(kind=PAIR))
        self.refuse_step(make(ins=(0,)))
        self.refuse_step(make(info=10))
        self.refuse_step(make(blocks=()))
        self.refuse_step(make(blocks=(block((), 1),)))
        self.refuse_step(make(blocks=(block((), 1, (10, 11)),)))
        self.refuse_step(make(blocks=(block((), 1, (10,)), block((), 1, (11,)))))
        self.check(self.with_values(make(kind=("fn", (BOOL, BOOL), 0))), (0, FRONT, 0, 0))
        self.check(self.with_values(make(kind=("fn", (INT, INT), 0))), (0, FRONT, 0))

    def test_handle(self):
        arms = (block((), 1), block((), 0, (10,)), block((), 11, (11,)), block((), 12, (12,)))

        def handle(*, kind=INT, ins=(), info=(2, 0), blocks=arms):
            return step("handle", 9, kind, ins, info, blocks=blocks)

        self.accept_step(handle())
        self.accept_step(handle(info=(), blocks=arms[:2]))
        for info in ((0, 0), (3, 0), (-1, 0), (True, 0), (None, 0), ("Div", 0), ((), 0), None, 0, True, "", (0, 1, 2),
                     (0,), ()):
            self.refuse_step(handle(info=info))
        self.refuse_step(handle(ins=(0,)))
        self.refuse_step(handle(blocks=arms[:3]))
        self.refuse_step(handle(blocks=arms + (block((), 0, (13,)),)))
        self.refuse_step(handle(blocks=(block((), 1, (13,)),) + arms[1:]))
        self.refuse_step(handle(blocks=(arms[0], block((), 0)) + arms[2:]))
        self.refuse_step(handle(blocks=arms[:3] + (block((), 0),)))
        self.refuse_step(handle(blocks=arms[:3] + (block((), 0, (12, 13)),)))
        self.check(self.with_values(handle(kind=BOOL)), (0, FRONT, 1))
        self.check(self.with_values(handle(kind=BOOL, blocks=(arms[0], block((), 10, (10,))) + arms[2:])),
                   (0, FRONT, 2))
        self.check(self.with_values(handle(blocks=(block((), 99),) + arms[1:])), (0, FRONT, 0))
        # The normal arm binds the value of the body, whatever its kind is, and the others an integer.
        self.check(self.with_values(handle(blocks=(arms[0], block((), 10, (10,))) + arms[2:])), (0, FRONT, 1))
        self.check(self.with_values(handle(blocks=(block((), 0), block((), 10, (10,))) + arms[2:])), None)

    def test_arms_of_handle(self):
        names = ("one", "two", "three", "four")
        arms = tuple(block((), 0, (10 + at,)) for at in range(7))
        six = step("handle", 9, INT, (), (0, 1, 2, 3, 4, 5), blocks=(block((), 0),) + arms)
        self.check(main_of((six,), 0, exceptions=names), None)
        seven = step("handle", 9, INT, (), (0, 1, 2, 3, 4, 5, 6), blocks=(block((), 0),) + arms + (block((), 0, (20,)),))
        self.check(main_of((seven,), 0, exceptions=names), (0, 0))


class ScopeTest(FlatCheckTest):
    def test_out_of_scope(self):
        self.check(main_of((step("add", 1, INT, (0, 1)),), 1), (0, 0))
        self.check(main_of((step("add", 1, INT, (0, 2)), number(2)), 1), (0, 0))
        self.check(main_of((number(1),), 2), (0,))
        self.check(main_of((), 10 ** 40), (0,))
        self.check(main_of((), 0), None)

    def test_end_of_a_block(self):
        one = step("if", 3, INT, (1,), blocks=(block((number(2),), 2), block((), 0)))
        self.check(main_of((step("bool", 1, BOOL, (), True), one), 3), None)
        self.check(main_of((step("bool", 1, BOOL, (), True), one), 2), (0,))
        self.check(main_of((step("bool", 1, BOOL, (), True), one, step("add", 4, INT, (2, 2))), 4), (0, 2))
        other = replace(one, (7, 1, 2), 2)
        self.check(main_of((step("bool", 1, BOOL, (), True), other), 3), (0, 1, 1))

    def test_blocks_of_closures(self):
        inner = step("fn", 3, ("fn", (INT, INT), 0), blocks=(block((step("add", 2, INT, (0, 1)),), 2, (1,)),))
        self.check(main_of((inner,), 0), None)
        self.check(main_of((inner, step("print", 4, UNIT, (1,))), 0), (0, 1))
        self.check(main_of((inner, step("print", 4, UNIT, (2,))), 0), (0, 1))

    def test_own_variable(self):
        inner = step("fn", 2, ("fn", (INT, INT), 0), blocks=(block((step("apply", 3, INT, (2, 1)),), 3, (1,)),))
        self.check(main_of((inner,), 0), (0, 0, 0, 0))

    def test_bound_twice(self):
        self.check(main_of((number(1), number(1)), 0), (0, 1))
        self.check(main_of((number(0),), 0), (0, 0))
        bool_step = step("bool", 1, BOOL, (), True)
        both = step("if", 4, INT, (1,), blocks=(block((number(2),), 2), block((number(2),), 2)))
        self.check(main_of((bool_step, both), 4), (0, 1, 1, 0))
        outer = step("if", 2, INT, (1,), blocks=(block((number(2),), 2), block((), 0)))
        self.check(main_of((bool_step, outer), 2), (0, 1, 0, 0))
        bound = step("fn", 3, ("fn", (INT, INT), 0), blocks=(block((), 1, (1,)),))
        self.check(main_of((bool_step, bound), 0), (0, 1))
        self.check(main_of((bound, bool_step), 0), (0, 1))
        self.check(main_of((replace(bound, (1,), 1),), 0), (0, 0))
        self.check(main_of((replace(bound, (7, 0), block((number(1),), 1, (1,))),), 0), (0, 0, 0, 0))

    def test_each_function_by_itself(self):
        self.check(program(function((number(5),), 5), function((number(5),), 5, name="main")), None)


class HeadTest(FlatCheckTest):
    """The paths of whole programs and of the heads of functions."""

    MAIN = function((), 0, name="main", kinds=(INT,))

    def test_no_function(self):
        self.check(((), FIRST, ()), ())

    def test_names_need_not_be_distinct(self):
        datas = (("a", (("A", ()), ("A", ()))), ("a", (("A", ()),)))
        self.check(program(function((number(0),), 0, name="main"), self.MAIN, datas=datas), None)
        self.check(program(replace(self.MAIN, (0,), "any name"), datas=(("", (("", ()),)),)), None)

    def test_exceptions(self):
        for names in (("Div", "Index"), ("Div", "Size", "Index"), (), ("Index", "Div", "Size"),
                      FIRST + ("a", "a"), FIRST + ("Div",), ("a",) + FIRST, ("Div", "Index", "Size ")):
            self.check(((), names, (self.MAIN,)), ())
        self.check(((), FIRST + ("a", "b", "A", "any name"), (self.MAIN,)), None)

    def test_parameters(self):
        for many, path in ((6, None), (7, (0,))):
            self.check(program(function((), 0, kinds=(INT,) * many), self.MAIN), path)
        for many, path in ((3, None), (4, (0,)), (7, (0,))):
            self.check(program(function((number(many),), many, name="main", kinds=(INT,) * many)), path)

    def test_last_function(self):
        self.check(program(function((number(1),), 1, name="other", kinds=(BOOL,))), (0,))
        self.check(program(function((step("unit", 1, UNIT),), 1, name="main", kinds=(INT,), result=UNIT)), (0,))
        self.check(program(function((), 0, kinds=(BOOL,), result=BOOL), self.MAIN), None)

    def test_bound_variables_of_a_body(self):
        self.check(program(function((), 0, kinds=(INT,), bind=(1,)), self.MAIN), (0,))
        self.check(program(self.MAIN, function((), 0, name="main", kinds=(INT,), bind=(1,))), (1,))

    def test_result(self):
        self.check(program(function((), 0, kinds=(INT,), result=BOOL), self.MAIN), (0,))
        self.check(program(function((), 1, kinds=(INT, BOOL), result=BOOL), self.MAIN), None)

    def test_data_numbers_of_kinds(self):
        for kind in (LIST, ("tuple", (INT, ("ref", (LIST,), 0)), 0)):
            for kinds, result in (((kind,), kind), ((INT, kind), INT)):
                value = program(function((), 0, kinds=kinds, result=result), self.MAIN)
                self.check(value, (0,))
                self.check((LISTS,) + value[1:], None)
        self.check(main_of((step("raise", 1, LIST, (0,), 0),), 0), (0, 0))

    def test_sizes_of_kinds(self):
        kind = INT
        for _ in range(31):
            kind = ("ref", (kind,), 0)
        self.check(program(function((), 0, kinds=(kind,), result=kind), self.MAIN), None)
        self.check(main_of((step("raise", 1, kind, (0,), 0),), 0), None)
        large = ("ref", (kind,), 0)
        self.check(program(function((number(1),), 1, kinds=(large,)), self.MAIN), (0,))
        self.check(program(self.MAIN, function((step("raise", 1, large, (0,), 0),), 0, name="main", kinds=(INT,))), (1, 0))
        wide = ("tuple", (("tuple", (INT,) * 6, 0),) * 4 + (("ref", (INT,), 0),), 0)
        self.check(main_of((step("raise", 1, wide, (0,), 0),), 0), None)
        self.check(main_of((step("raise", 1, ("ref", (("ref", (wide,), 0),), 0), (0,), 0),), 0), (0, 0))
        seven = ("tuple", (INT,) * 7, 0)
        self.check(main_of((step("raise", 1, seven, (0,), 0),), 0), (0, 0))
        self.check(program(function((number(1),), 1, kinds=(("ref", (seven,), 0),)), self.MAIN), (0,))

    def test_datas(self):
        def check_data(constructors, path, before=()):
            self.check(program(self.MAIN, datas=before + (("d", tuple(constructors)),)), path)

        check_data([("A", ())] * 8, None)
        check_data([("A", ())] * 9, ())
        check_data([], ())
        check_data([("A", (INT,) * 6)], None)
        check_data([("A", (INT,) * 7)], ())
        check_data([("A", (LIST,))], None)
        check_data([("A", (("data", 1, 0),))], ())
        check_data([("A", (("data", 1, 0), LIST))], None, before=LISTS)
        check_data([("A", (("ref", (("data", 2, 0),), 0),))], (), before=LISTS)
        check_data([("A", (("tuple", (INT,) * 7, 0),))], ())
        kind = INT
        for _ in range(31):
            kind = ("ref", (kind,), 0)
        check_data([("A", (kind,))], None)
        check_data([("A", (("ref", (kind,), 0),))], ())

    def test_number_of_steps(self):
        steps = tuple(number(at) for at in range(1, 1202))
        self.check(main_of(steps[:1200], 0), None)
        self.check(main_of(steps, 0), ())
        half = steps[:600]
        both = program(function(half, 0, kinds=(INT,)), function(half, 0, name="main", kinds=(INT,)))
        self.check(both, None)
        self.check(replace(both, (2, 0, 5, 1), half + (number(9999),)), ())
        many = step("fn", 2000, ("fn", (INT, INT), 0), blocks=(block(steps[1:1200], 0, (1,)),))
        self.check(main_of((many,), 0), None)
        self.check(main_of((replace(many, (7, 0, 1), steps[1:1201]),), 0), ())

    def nested(self, levels):
        """A main function whose blocks are nested so deep."""
        inner = block((), 0)
        for level in range(levels - 1):
            bound = 2 * level + 1
            kind = ("fn", (INT, INT), 0)
            inner = block((step("fn", bound + 1, kind, blocks=(replace(inner, (0,), (bound,)),)),), 0)
        return program(("main", 0, (), (INT,), INT, inner))

    def test_depth(self):
        self.check(self.nested(12), None)
        self.check(self.nested(13), ())
        self.check(self.nested(60), ())


class OrderTest(FlatCheckTest):
    """Programs with two errors: the first place in the order of the point is due."""

    BAD = step("add", 1, BOOL, (0, 0))

    def test_whole_before_places(self):
        bad = main_of((self.BAD,), 0)
        self.check(bad, (0, 0))
        self.check(replace(bad, (1,), ("Div",)), ())
        self.check(replace(bad, (0,), (("d", ()),)), ())
        self.check(replace(bad, (2, 0, 5, 2), -1), ())
        self.check(replace(bad, (2, 0, 3), (BOOL,)), (0,))

    def test_functions_in_order(self):
        value = program(function((self.BAD,), 0, kinds=(INT,)), function((), 0, name="main", kinds=(BOOL,)))
        self.check(value, (0, 0))
        self.check(replace(value, (2, 0, 5, 1), ()), (1,))
        self.check(replace(value, (2, 0, 5), block((), 5)), (0,))

    def test_steps_in_order(self):
        bad = replace(self.BAD, (1,), 2)
        flag = step("bool", 1, BOOL, (), True)
        inner = step("if", 9, INT, (1,), blocks=(block((bad,), 0), block((), 99)))
        self.check(main_of((flag, inner, step("add", 4, BOOL, (0, 0))), 99), (0, 1, 0, 0))
        self.check(main_of((flag, replace(inner, (3,), (0,))), 99), (0, 1))
        self.check(main_of((flag, replace(inner, (7, 0, 1), ())), 99), (0, 1, 1))
        self.check(main_of((flag, replace(inner, (7, 0), block((number(5),), 98))), 99), (0, 1, 0))
        self.check(main_of((flag, replace(inner, (7,), (block((), 0),) * 2), bad), 99), (0, 2))
        self.check(main_of((flag,), 99), (0,))


class FormTest(FlatCheckTest):
    """The form of the whole value: the path is empty, whatever else is wrong."""

    RIGHT = program(
        function((step("tuple", 1, PAIR, (0, 0)), step("if", 4, INT, (3,), blocks=(block((), 0), block((), 0)))), 0,
                 kinds=(INT, BOOL, LIST, BOOL)),
        function((), 0, name="main", kinds=(INT,)), datas=LISTS)

    def setUp(self):
        # The first step makes a variable that is there already.
        self.assertEqual(flat_fault(self.RIGHT), (0, 0))

    def refuse(self, path, *values):
        for value in values:
            self.check(replace(self.RIGHT, path, value), ())

    def test_tuples(self):
        for path in ((), (0,), (1,), (2,), (0, 0), (0, 0, 1), (0, 0, 1, 1), (0, 0, 1, 1, 1), (2, 0), (2, 0, 3),
                     (2, 0, 5), (2, 0, 5, 0), (2, 0, 5, 1), (2, 0, 5, 1, 0), (2, 0, 5, 1, 0, 3), (2, 0, 5, 1, 1, 7),
                     (2, 0, 5, 1, 1, 7, 0), (2, 0, 5, 1, 0, 2), (2, 0, 3, 0), (2, 0, 4)):
            self.refuse(path, None, True, 0, "a", deep(200))
        for path in ((), (0, 0), (0, 0, 1, 1), (2, 0), (2, 0, 5), (2, 0, 5, 1, 0), (2, 0, 5, 1, 0, 2), (2, 0, 4)):
            self.refuse(path, (), ((),) * 9, ("a",))

    def test_names(self):
        for path in ((0, 0, 0), (0, 0, 1, 0, 0), (1, 0), (2, 0, 0), (2, 0, 5, 1, 0, 0)):
            self.refuse(path, None, True, 3, (), deep(200))

    def test_variables(self):
        for path in ((2, 0, 5, 1, 0, 1), (2, 0, 5, 1, 0, 3, 1), (2, 0, 5, 2), (2, 0, 5, 1, 1, 7, 0, 2)):
            self.refuse(path, None, True, False, -1, "0", (), (0,))
        self.refuse((2, 0, 5, 0), (True,), (-1,), (None,))

    def test_kinds(self):
        wrong = (
            ("float", (), 0), ("", (), 0), (None, (), 0), (1, (), 0), ("int", (INT,), 0), ("int", None, 0),
            ("int", (), 1), ("int", (), False), ("int", (), None), ("int", (), "0"), ("tuple", (), 0),
            ("tuple", (INT,), 0), ("tuple", INT, 1), ("tuple", (INT, INT), 1), ("tuple", (INT, None), 0),
            ("tuple", (INT, ("bool", (), 2)), 0), ("fn", (INT,), 0), ("fn", (INT, INT, INT), 0), ("ref", (), 0),
            ("ref", (INT, INT), 0), ("array", INT, 0), ("data", -1, 0), ("data", True, 0), ("data", "list", 0),
            ("data", (), 0), ("data", 0, 1), ("data", None, 0), ("data", deep(200), 0), (deep(200), (), 0),
        )
        for path in ((0, 0, 1, 1, 1, 0), (2, 0, 3, 0), (2, 0, 4), (2, 0, 5, 1, 0, 2)):
            self.refuse(path, *wrong)

    def test_fields_of_regions(self):
        self.refuse((2, 0, 1), 1, False, None, "0", ())
        self.refuse((2, 0, 2), (0,), None, 0, False)
        self.refuse((2, 0, 5, 1, 0, 5), 1, False, None, "0", ())
        self.refuse((2, 0, 5, 1, 0, 6), (0,), None, 0, ((0, "keep"),))

    def test_form_before_the_rest(self):
        self.refuse((2, 1, 5, 2), True)
        self.refuse((2, 1, 3, 0), ("int", (), 1))


if __name__ == "__main__":
    unittest.main()
