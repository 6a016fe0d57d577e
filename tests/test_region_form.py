"""The reasons "shape" and "flat" of region programs, and what is left of them when they are erased."""

import unittest

from escheat import flat, place, regions
from escheat.errors import RegionError
from tests.helpers import BOOL, FIRST, INT, UNIT, deep, replace
from tests.programs import (
    PAIR, block, end, flattened, found, function, in_pair, main_of, new, number, pair, program, region_fault, step,
)

FN = ("fn", (INT, INT), 0)
LISTS = (("list", (("Nil", ()), ("Cons", (in_pair(0), ("data", 0, 0))))),)


def every_fault(value):
    """The errors of check, run, erase and keeper for a value."""
    return (
        region_fault(value), region_fault(value, lambda it: regions.run(it, (1,))), region_fault(value, regions.erase),
        region_fault(value, lambda it: place.keeper(it, (0,), 0)),
    )


class FormTest(unittest.TestCase):
    def accept(self, value):
        self.assertEqual(region_fault(value), None)
        self.assertIsNone(regions.check(value))

    def refuse(self, value, reason):
        fault = ((), reason)
        self.assertEqual(every_fault(value), (fault, fault, fault if reason == "shape" else None, fault))


class ShapeTest(FormTest):
    # f(x: pair in 0) reads it, and makes and reads another pair in 1; main calls f.
    CALLEE = function((step("get", 1, INT, (0,), 0), new(1), pair(2, 1, 1, 1), step("get", 3, INT, (2,), 1), end(1),
                       end(0)), 3, kinds=(in_pair(0),), formals=1, touch=(0,))
    CALL = step("call", 2, INT, (1,), 0, use=((4, "last"),))
    KEPT = step("handle", 5, INT, (), (), use=(), blocks=(block((), 0), block((), 4, (4,))))
    MAIN = function((new(4), pair(1, 4), CALL, KEPT), 2, name="main", kinds=(INT,))
    RIGHT = program(CALLEE, MAIN, datas=LISTS)

    def test_right(self):
        self.accept(self.RIGHT)
        self.assertEqual(every_fault(self.RIGHT), (None,) * 4)

    def change(self, path, *values, reason="shape"):
        for value in values:
            with self.subTest(path=path, value=str(value)[:80]):
                self.refuse(replace(self.RIGHT, path, value), reason)

    def test_tuples(self):
        for path in ((), (1,), (2,), (2, 0), (2, 0, 2), (2, 0, 5), (2, 0, 5, 0), (2, 0, 5, 1), (2, 0, 5, 1, 0),
                     (2, 0, 5, 1, 0, 2), (2, 1, 5, 1, 3, 7, 0), (2, 0, 3, 0), (2, 0, 4), (2, 1, 5, 1, 2, 6),
                     (2, 1, 5, 1, 3, 6)):
            self.change(path, None, True, 0, "a")
        for path in ((), (2,), (2, 0), (2, 0, 2), (2, 0, 5), (2, 0, 5, 1), (2, 0, 5, 1, 0), (2, 0, 5, 1, 0, 2)):
            self.change(path, deep(200))
        for path in ((), (2, 0), (2, 0, 5), (2, 0, 5, 1, 0), (2, 0, 5, 1, 0, 2), (2, 0, 3, 0), (2, 0, 4)):
            self.change(path, (), ((),) * 9)

    def test_numbers_of_regions(self):
        wrong = (-1, True, False, None, "0", (), (0,), deep(200))
        for path in ((2, 0, 1), (2, 0, 2, 0), (2, 0, 3, 0, 2), (2, 0, 5, 1, 2, 2, 2), (2, 0, 5, 1, 2, 5),
                     (2, 0, 5, 1, 1, 5), (2, 0, 5, 1, 4, 5), (2, 0, 5, 1, 3, 5), (2, 1, 5, 1, 2, 6, 0, 0)):
            self.change(path, *wrong)
        for value in wrong:
            self.change((2, 1, 5, 1, 3, 6), (value,))

    def test_great_numbers_of_regions(self):
        great = 10 ** 40
        value = main_of((new(great), pair(1, great), step("get", 2, INT, (1,), 0), end(great)), 2)
        self.accept(value)
        self.assertEqual(regions.run(value, (7,))[0], (None, 7, (), 0))

    def test_regions_of_plain_kinds(self):
        for kind in (("int", (), 1), ("bool", (), 4), ("unit", (), 1)):
            self.change((2, 0, 5, 1, 3, 2), kind)
            self.change((2, 0, 4), kind)
            self.change((2, 0, 3, 0, 1, 0), kind)

    def test_regions_in_data_declarations(self):
        self.change((0, 0, 1, 1, 1, 0), in_pair(1), ("data", 0, 1), ("ref", (in_pair(2),), 0))
        self.change((0, 0, 1, 1, 1, 0, 2), True, None, -1)

    def test_sizes_of_kinds(self):
        kind = INT
        for _ in range(31):
            kind = ("ref", (kind,), 4)
        raised = step("raise", 9, kind, (0,), 0)
        self.accept(replace(self.RIGHT, (2, 1, 5, 1), (new(4), pair(1, 4), raised, self.CALL)))
        raised = step("raise", 9, ("ref", (kind,), 4), (0,), 0)
        self.change((2, 1, 5, 1), (new(4), pair(1, 4), raised, self.CALL))
        field = INT
        for _ in range(32):
            field = ("ref", (field,), 0)
        self.change((0, 0, 1, 1, 1, 0), field)
        self.change((2, 0, 3, 0), field)

    def test_touch(self):
        self.change((2, 0, 2), (1,), (0, 0), (0, 1), (0, 10 ** 30))
        two = function((end(0), end(1)), 0, kinds=(INT,), formals=2, touch=(0, 1))
        main = function((), 0, name="main", kinds=(INT,))
        self.accept(program(two, main))
        self.refuse(program(replace(two, (2,), (1, 0)), main), "shape")

    def test_regions_of_heads(self):
        self.change((2, 0, 3, 0), in_pair(1))
        self.change((2, 0, 4), in_pair(1), ("ref", (in_pair(0),), 1))
        self.change((2, 0, 1), 0)
        formal = replace(self.MAIN, (1,), 1)
        self.refuse(program(self.CALLEE, formal, datas=LISTS), "shape")

    def test_number_of_regions(self):
        main = function((), 0, name="main", kinds=(INT,))
        begun = tuple(boundary for region in range(60, 124) for boundary in (new(region), end(region)))
        self.accept(program(function(begun, 0, kinds=(INT,)), main))
        self.refuse(program(function(begun, 0, kinds=(INT,), formals=1), main), "shape")
        self.refuse(program(function(begun + (new(7), end(7)), 0, kinds=(INT,)), main), "shape")
        self.accept(program(function((), 0, kinds=(INT,), formals=64), main))
        self.refuse(program(function((), 0, kinds=(INT,), formals=65), main), "shape")
        self.refuse(program(function((), 0, kinds=(INT,), formals=10 ** 30), main), "shape")
        # Those of inner blocks count too, in closures as well.
        inner = step("fn", 2, ("fn", (INT, INT), 60), region=60, blocks=(block(begun[2:], 1, (1,)),))
        self.accept(main_of((new(60), inner, end(60)), 0))
        self.refuse(main_of((new(60), inner, new(1), end(1), end(60)), 0), "shape")

    def test_regions_of_steps(self):
        for one in (number(3), step("print", 3, UNIT, (0,)), step("add", 3, INT, (0, 0)), step("raise", 3, INT, (0,), 0),
                    step("make", 3, ("data", 0, 4), (), 0), step("get", 3, INT, (1,), 0)):
            steps = (new(4), pair(1, 4), one, end(4))
            self.accept(main_of(steps, 0, datas=LISTS))
            self.refuse(main_of(replace(steps, (2, 5), 4), 0, datas=LISTS), "shape")

    def test_new_and_end(self):
        for at in (1, 4):
            here = (2, 0, 5, 1, at)
            self.change(here + (1,), 0, 7, -2, True, None)
            self.change(here + (2,), INT, BOOL, in_pair(0), ("unit", (), 1))
            self.change(here + (3,), (0,), None)
            self.change(here + (4,), 0, False, ())
            self.change(here + (6,), (0,), ((0, "keep"),), None)
            self.change(here + (7,), (block((), 0),), None)

    def test_use(self):
        call, kept, other = (2, 1, 5, 1, 2, 6), (2, 1, 5, 1, 3, 6), (2, 1, 5, 1, 1, 6)
        self.change(call, (0,), ((0,),), ((0, "keep", 1),), (("keep", 0),), ((0, "KEEP"),), ((0, None),), ((0, ()),))
        self.change(call + (0, 1), "", "all", 0, True, deep(200))
        self.change(kept, ((0, "keep"),), (4, 4), (5, 4), ("4",))
        self.change(other, (0,), ((0, "keep"),), None)

    def nested(self, levels):
        inner = block((), 0)
        for level in range(levels - 1):
            step_of = step("fn", 2 * level + 2, FN[:2] + (50,), region=50, blocks=(replace(inner, (0,), (2 * level + 1,)),))
            inner = block((step_of,), 0)
        return program(("main", 0, (), (INT,), INT, block((new(50), *inner[1], end(50)), 0)))

    def test_depth(self):
        self.accept(self.nested(12))
        self.refuse(self.nested(13), "shape")
        self.refuse(self.nested(60), "shape")


class FlatReasonTest(FormTest):
    RIGHT = ShapeTest.RIGHT

    def change(self, path, *values):
        for value in values:
            with self.subTest(path=path, value=str(value)[:80]):
                self.refuse(replace(self.RIGHT, path, value), "flat")

    def test_what_flat_check_refuses(self):
        self.change((1,), (), ("Div", "Index"), FIRST + ("a", "a"), FIRST + (None,), FIRST + (deep(200),))
        self.change((2, 0, 5, 1, 3, 4), 2, None, True, "0", deep(200))
        self.change((2, 0, 5, 1, 3, 1), 2, 0, -1, True, None, deep(200))
        self.change((2, 0, 5, 1, 3, 3), (0, 2), (77,), (True,), (None,), (deep(200),))
        self.change((2, 0, 5, 2), 77, -1, None, True, deep(200))
        self.change((2, 0, 0), None, 0, (), deep(200))
        self.change((2, 1, 4), BOOL)
        self.change((2, 1, 3), (BOOL,), (INT,) * 4)
        self.change((2, 0, 5, 0), (5,), (None,), (deep(200),))
        self.change((2, 1, 5, 1, 2, 4), 2, None, -1, deep(200))

    def test_no_function(self):
        self.refuse(((), FIRST, ()), "flat")

    def test_flat_conditions_without_regions(self):
        self.refuse(main_of((new(0), pair(1, 0), step("get", 2, BOOL, (1,), 0), end(0)), 0), "flat")
        self.refuse(main_of((new(0), step("tuple", 1, in_pair(0), (0,), region=0), end(0)), 0), "flat")
        self.refuse(main_of((step("mod", 1, INT, (0, 0)),), 0), "flat")

    def test_number_of_pairs(self):
        self.change((2, 1, 5, 1, 2, 6), (), ((4, "last"), (4, "none")), ((4, "keep"),) * 3)
        untouched = program(function((), 0, kinds=(INT,), formals=2), function(
            (new(1), end(1), step("call", 1, INT, (0,), 0, use=((1, "none"), (1, "none")))), 1, name="main", kinds=(INT,)))
        self.accept(untouched)
        self.refuse(replace(untouched, (2, 1, 5, 1, 2, 6), ((1, "none"),)), "flat")
        # In an inner block, behind a call that is right.
        inner = block((step("call", 3, INT, (0,), 0, use=((1, "none"),)),), 3)
        handle = step("handle", 5, INT, (), (), blocks=(inner, block((), 4, (4,))))
        steps = untouched[2][1][5][1] + (handle,)
        self.refuse(replace(untouched, (2, 1, 5, 1), steps), "flat")

    def test_number_of_steps(self):
        steps = tuple(number(at) for at in range(1, 1202))
        around = (new(1), end(1), new(2), end(2))
        self.accept(main_of(around + steps[:1200], 0))
        self.refuse(main_of(around + steps, 0), "flat")

    def test_shape_first(self):
        value = replace(self.RIGHT, (1,), ("Div",))
        self.refuse(value, "flat")
        self.refuse(replace(value, (2, 1, 5, 1, 0, 5), -1), "shape")
        self.refuse(replace(value, (2, 1, 5, 1, 2, 6), ((4, "take"),)), "shape")

    def test_flat_before_the_places(self):
        value = replace(self.RIGHT, (2, 0, 5, 1), self.RIGHT[2][0][5][1][:-1])
        self.assertEqual(region_fault(value), ((0,), "left"))
        self.refuse(replace(value, (2, 1, 4), BOOL), "flat")


class EitherTest(unittest.TestCase):
    """Values whose form may be meant by both reasons: check, run and erase agree."""

    def test_unclear_forms(self):
        right = ShapeTest.RIGHT
        kinds = (("float", (), 0), (None, (), 0), ("int", (INT,), 0), ("tuple", (INT,), 0), ("tuple", (), 0),
                 ("ref", (), 0), ("fn", (INT,), 0), ("data", None, 0), ("array", 3, 0), (deep(199), deep(199), 0))
        for path in ((2, 0, 3, 0), (2, 0, 4), (2, 0, 5, 1, 2, 2), (0, 0, 1, 1, 1, 0)):
            for kind in kinds:
                self.check_either(replace(right, path, kind))
        for path in ((0, 0), (0, 0, 1), (0, 0, 1, 0), (0, 0, 1, 1, 1), (2, 0, 3), (2, 0, 5, 1, 0, 3),
                     (2, 0, 5, 1, 0, 7), (2, 0, 5, 1, 0, 0), (0, 0, 0)):
            for value in (None, 7, True, deep(200)):
                self.check_either(replace(right, path, value))

    def check_either(self, value):
        faults = every_fault(value)
        self.assertIn(faults[0], (((), "shape"), ((), "flat")))
        self.assertEqual(faults[0], faults[1])
        self.assertEqual(faults[2], faults[0] if faults[0][1] == "shape" else None)


class EraseTest(unittest.TestCase):
    def test_erase(self):
        erased = regions.erase(ShapeTest.RIGHT)
        self.assertEqual(erased, program(
            function((step("get", 1, INT, (0,), 0), pair(2, 0, 1, 1), step("get", 3, INT, (2,), 1)), 3, kinds=(PAIR,)),
            function((pair(1, 0), step("call", 2, INT, (1,), 0), ShapeTest.KEPT), 2, name="main", kinds=(INT,)),
            datas=LISTS))
        self.assertIsNone(flat.check(erased))

    def test_inner_blocks(self):
        inner = block((new(7), pair(3, 7, 2, 2), step("get", 4, INT, (3,), 0), end(7)), 4, (2,))
        maker = step("fn", 5, ("fn", (INT, INT), 6), region=6, blocks=(inner,))
        handle = step("handle", 8, INT, (), (), use=(6,), blocks=(block((end(6),), 0), block((), 6, (6,))))
        found = regions.erase(main_of((new(6), maker, handle), 8))
        flat_inner = block((pair(3, 0, 2, 2), step("get", 4, INT, (3,), 0)), 4, (2,))
        self.assertEqual(found, main_of((
            step("fn", 5, FN, blocks=(flat_inner,)),
            step("handle", 8, INT, (), (), blocks=(block((), 0), block((), 6, (6,)))),
        ), 8))

    def test_unsafe_and_wrong_programs(self):
        """Everything with the form is erased, whatever else is wrong."""
        self.assertEqual(regions.erase(main_of((end(9), new(0), number(5)), 77)), main_of((number(5),), 77))
        self.assertEqual(regions.erase(((), (), ())), ((), (), ()))
        self.assertEqual(regions.erase(main_of((step("mod", None, INT, ("a",), deep(9)),), None)),
                         main_of((step("mod", None, INT, ("a",), deep(9)),), None))

    def test_flat_program(self):
        value = flattened("(fun main ((n int)) int (get 0 (tuple n n)))")
        self.assertEqual(regions.erase(value), value)
        self.assertEqual(regions.erase(found("(fun main ((n int)) int (get 0 (tuple n n)))")), value)

    def test_no_shape(self):
        for value in (None, True, 0, "", (), ((), ()), ((), (), (), ()), ((), (), None), deep(200)):
            with self.assertRaises(RegionError) as caught:
                regions.erase(value)
            self.assertEqual((caught.exception.path, caught.exception.reason), ((), "shape"))


class CapturedTest(unittest.TestCase):
    def test_captured(self):
        self.assertEqual(regions.captured(block((), 3, (3,))), ())
        self.assertEqual(regions.captured(block((), 4, (3,))), (4,))
        self.assertEqual(regions.captured(block((step("add", 9, INT, (7, 2)), step("add", 10, INT, (9, 3))), 10, (3,))),
                         (2, 7))
        self.assertEqual(regions.captured(block((step("add", 9, INT, (7, 7)),), 7, (3,))), (7,))

    def test_inner_blocks(self):
        inner = block((step("add", 6, INT, (5, 1)),), 6, (5,))
        maker = step("fn", 7, FN, blocks=(inner,))
        branch = step("if", 8, INT, (2,), blocks=(block((), 0), block((number(9),), 9)))
        self.assertEqual(regions.captured(block((maker, branch), 4, (4,))), (0, 1, 2))
        self.assertEqual(regions.captured(block((maker,), 7, (4,))), (1,))
        bound = step("handle", 11, INT, (), (0,), blocks=(block((), 4), block((), 12, (12,)), block((), 13, (13,))))
        self.assertEqual(regions.captured(block((bound,), 11, (4,))), ())

    def test_boundaries(self):
        self.assertEqual(regions.captured(block((new(5), pair(6, 5, 4, 2), end(5)), 4, (4,))), (2,))


if __name__ == "__main__":
    unittest.main()
