"""Each condition of the check of region programs: a program that only it refuses, with the path and the reason."""

import unittest

from escheat import place, regions
from escheat.errors import EscheatError, RegionError
from tests.helpers import BOOL, INT, UNIT, replace
from tests.programs import block, end, function, in_pair, main_of, new, number, pair, program, region_fault, step

FLAG = step("bool", 1, BOOL, (), True)
LIST = (("list", (("Nil", ()), ("Cons", (INT, ("data", 0, 0))))),)
ENUM = (("enum", (("A", ()), ("B", ()))),)


def get(out, variable, info=0, kind=INT):
    return step("get", out, kind, (variable,), info)


def branch(out, first, second, kind=INT):
    return step("if", out, kind, (1,), blocks=(first, second))


def handle(out, body, normal, *arms, keep=(), kind=INT):
    """A handle step, whose arms handle Div, Index and Size in this order."""
    return step("handle", out, kind, (), tuple(range(len(arms))), use=keep, blocks=(body, normal) + arms)


def closure(out, region, inner, kind=("fn", (INT, INT))):
    return step("fn", out, kind + (region,), region=region, blocks=(inner,))


def call(out, ins, info, *use, kind=INT):
    return step("call", out, kind, ins, info, use=use)


def with_main(callee, steps, value=0, **more):
    return program(callee, function(steps, value, name="main", kinds=(INT,)), **more)


class RegionCheckTest(unittest.TestCase):
    def accept(self, value):
        self.assertIsNone(region_fault(value))
        self.assertIsNone(regions.check(value))

    def refuse(self, value, path, reason):
        self.assertEqual(region_fault(value), (path, reason))
        with self.assertRaises(RegionError) as caught:
            place.keeper(value, path, 0)
        self.assertEqual((caught.exception.path, caught.exception.reason), (path, reason))
        self.assertIsInstance(caught.exception, EscheatError)
        # A run looks for two of the reasons only; it may find one of them further down.
        found = region_fault(value, lambda it: regions.run(it, (1,)))
        if reason in ("scope", "kind"):
            self.assertEqual(found, (path, reason))
        elif found is not None:
            self.assertIn(found[1], ("scope", "kind"))
            self.assertGreater(found[0] + (99,), path)

    def accept_main(self, *steps, value=0, **more):
        self.accept(main_of(steps, value, **more))

    def refuse_main(self, path, reason, *steps, value=0, **more):
        self.refuse(main_of(steps, value, **more), path, reason)


class ScopeTest(RegionCheckTest):
    def test_begun_twice(self):
        self.accept_main(new(0), end(0), new(1), end(1))
        self.refuse_main((0, 2), "scope", new(0), end(0), new(0), end(0))
        two = branch(2, block((new(0), end(0)), 0), block((new(0), end(0)), 0))
        self.refuse_main((0, 1, 1, 0), "scope", FLAG, two)
        self.accept_main(FLAG, replace(two, (7, 1, 1), (new(1), end(1))))
        inner = closure(3, 1, block((new(1), end(1)), 2, (2,)))
        self.refuse_main((0, 1, 0, 0), "scope", new(1), inner, end(1))

    def test_formal_begun(self):
        for formals, region in ((1, 0), (3, 1), (3, 2)):
            callee = function((new(region), end(region)), 0, kinds=(INT,), formals=formals)
            self.refuse(with_main(callee, ()), (0, 0), "scope")
        self.accept(with_main(function((new(1), end(1)), 0, kinds=(INT,), formals=1), ()))

    def test_functions_have_their_own_numbers(self):
        self.accept(with_main(function((new(0), end(0)), 0, kinds=(INT,)), (new(0), end(0))))

    def test_region_of_a_step(self):
        self.refuse_main((0, 0), "scope", pair(1, 0))
        self.refuse_main((0, 0), "scope", pair(1, 0), new(0), end(0))
        self.refuse_main((0, 1), "scope", new(1), pair(1, 0), end(1))
        self.refuse_main((0, 0), "scope", end(0))
        self.refuse_main((0, 0), "scope", end(0), new(0))
        # The kind is right, the region is not.
        self.refuse_main((0, 1), "scope", new(1), step("tuple", 1, in_pair(1), (0, 0), region=2), end(1))
        self.refuse_main((0, 0), "scope", closure(2, 5, block((), 1, (1,))))

    def test_region_of_a_kind(self):
        self.refuse_main((0, 0), "scope", step("raise", 1, in_pair(0), (0,), 0))
        self.accept_main(new(0), end(0), step("raise", 1, in_pair(0), (0,), 0))
        self.refuse_main((0, 1), "scope", new(0), step("raise", 1, ("ref", (in_pair(1),), 0), (0,), 0), end(0))
        self.refuse_main((0, 0), "scope", step("make", 1, ("data", 0, 3), (), 0), datas=LIST)
        self.accept_main(new(3), end(3), step("make", 1, ("data", 0, 3), (), 0), datas=LIST)
        self.refuse_main((0, 2), "scope", new(0), end(0), step("raise", 1, ("fn", (INT, in_pair(1)), 0), (0,), 0))

    def test_end_of_a_block(self):
        first = block((new(0), end(0)), 0)
        self.refuse_main((0, 2), "scope", FLAG, branch(2, first, block((), 0)), step("raise", 3, in_pair(0), (0,), 0))
        self.refuse_main((0, 1, 1, 0), "scope", FLAG, branch(2, first, block((step("raise", 3, in_pair(0), (0,), 0),), 0)))
        # Behind the end step of a region its number is still in scope.
        self.accept_main(new(0), end(0), FLAG, branch(2, block((step("raise", 3, in_pair(0), (0,), 0),), 0), block((), 0)))

    def test_inside_closures(self):
        inner = block((step("raise", 2, in_pair(7), (1,), 0),), 1, (1,))
        self.accept_main(new(5), new(7), end(7), closure(3, 5, inner), end(5))
        self.refuse_main((0, 1, 0, 0), "scope", new(5), closure(3, 5, inner), end(5))

    def test_use(self):
        callee = function((), 0, kinds=(INT,), formals=2)
        steps = (new(1), end(1), call(1, (0,), 0, (1, "none"), (1, "none")))
        self.accept(with_main(callee, steps))
        self.refuse(with_main(callee, replace(steps, (2, 6, 1, 0), 2)), (1, 2), "scope")
        self.refuse(with_main(callee, replace(steps, (2, 6, 0, 0), 0)), (1, 2), "scope")
        # The region 0 of the step itself names no region.
        self.accept(with_main(replace(callee, (1,), 0), (call(1, (0,), 0),)))

    def test_use_of_handle(self):
        body, normal = block((), 0), block((), 2, (2,))
        self.refuse_main((0, 0), "scope", handle(3, body, normal, keep=(0,)))
        self.refuse_main((0, 1), "scope", new(0), handle(3, body, normal, keep=(0, 1)), end(0))
        self.accept_main(new(0), handle(3, body, normal, keep=(0,)), end(0))

    def test_normal_arm(self):
        """What the normal arm binds must be in scope there. The check finds another reason first."""
        body = block((new(0), pair(1, 0), end(0)), 1)
        value = main_of((handle(3, body, block((), 0, (2,))),), 3)
        self.refuse(value, (0, 0, 0), "escapes")
        self.assertEqual(region_fault(value, lambda it: regions.run(it, (1,))), ((0, 0), "scope"))


class KindTest(RegionCheckTest):
    def test_region_of_a_cell(self):
        self.accept_main(new(0), new(1), pair(1, 0), end(0), end(1))
        regions_of = (new(0), new(1))
        ends = (end(0), end(1))
        for wrong in (
            step("tuple", 1, in_pair(1), (0, 0), region=0), step("ref", 1, ("ref", (INT,), 1), (0,), region=0),
            step("array", 1, ("array", (INT,), 1), (0, 0), region=0),
            step("fn", 1, ("fn", (INT, INT), 1), region=0, blocks=(block((), 2, (2,)),)),
        ):
            self.refuse_main((0, 2), "kind", *regions_of, wrong, *ends)
            self.accept_main(*regions_of, replace(wrong, (5,), 1), *ends)

    def test_parts(self):
        kind = ("tuple", (in_pair(0), INT), 1)
        steps = (new(0), new(1), pair(1, 0), step("tuple", 2, kind, (1, 0), region=1), get(3, 2, 0, in_pair(0)),
                 end(0), end(1))
        self.accept_main(*steps)
        self.refuse_main((0, 3), "kind", *replace(steps, (3, 2, 1, 0), in_pair(1)))
        self.refuse_main((0, 4), "kind", *replace(steps, (4, 2), in_pair(1)))
        self.accept_main(*replace(replace(steps, (4,), get(3, 2, 1)), (3, 2, 1, 0), in_pair(0)))

    def test_refs_and_arrays(self):
        ref, array = ("ref", (in_pair(0),), 1), ("array", (in_pair(0),), 1)
        front = (new(0), new(1), pair(1, 0), pair(2, 1), step("ref", 3, ref, (1,), region=1),
                 step("array", 4, array, (0, 1), region=1))
        ends = (end(0), end(1))
        for right, wrong in (
            (step("deref", 5, in_pair(0), (3,)), step("deref", 5, in_pair(1), (3,))),
            (step("set", 5, UNIT, (3, 1)), step("set", 5, UNIT, (3, 2))),
            (step("at", 5, in_pair(0), (4, 0)), step("at", 5, in_pair(1), (4, 0))),
            (step("put", 5, UNIT, (4, 0, 1)), step("put", 5, UNIT, (4, 0, 2))),
            (step("ref", 5, ref, (1,), region=1), step("ref", 5, ref, (2,), region=1)),
            (step("array", 5, array, (0, 1), region=1), step("array", 5, array, (0, 2), region=1)),
        ):
            self.accept_main(*front, right, *ends)
            self.refuse_main((0, 6), "kind", *front, wrong, *ends)

    def test_make(self):
        datas = (("box", (("Box", (in_pair(0), ("ref", (in_pair(0),), 0))),)),)
        kind = ("data", 0, 0)
        steps = (new(0), new(1), pair(1, 0), step("ref", 2, ("ref", (in_pair(0),), 0), (1,), region=0),
                 step("make", 3, kind, (1, 2), 0, region=0), end(0), end(1))
        self.accept_main(*steps, datas=datas)
        self.refuse_main((0, 4), "kind", *replace(steps, (4, 5), 1), datas=datas)
        self.refuse_main((0, 4), "kind", *replace(replace(steps, (4, 5), 1), (4, 2, 2), 1), datas=datas)
        self.refuse_main((0, 4), "kind", *replace(replace(steps, (2,), pair(1, 1)), (3,), step(
            "ref", 2, ("ref", (in_pair(1),), 0), (1,), region=0)), datas=datas)

    def test_case(self):
        """The variables of an arm have the kinds of the fields in the region of the value."""
        datas = (("box", (("Box", (in_pair(0),)),)),)
        case = step("case", 4, in_pair(0), (2,), blocks=(block((), 3, (3,)),))
        steps = (new(0), new(1), pair(1, 0), step("make", 2, ("data", 0, 0), (1,), 0, region=0), case, end(0), end(1))
        self.accept_main(*steps, datas=datas)
        self.refuse_main((0, 4, 0), "kind", *replace(steps, (4, 2), in_pair(1)), datas=datas)

    def test_values_of_blocks(self):
        steps = (FLAG, new(0), new(1), pair(2, 0), pair(3, 1), branch(4, block((), 2), block((), 2), in_pair(0)),
                 end(0), end(1))
        self.accept_main(*steps)
        self.refuse_main((0, 5, 1), "kind", *replace(steps, (5, 7, 1, 2), 3))
        self.refuse_main((0, 5, 0), "kind", *replace(steps, (5, 7, 0, 2), 3))
        self.refuse_main((0, 5, 0), "kind", *replace(steps, (5, 2), in_pair(1)))

    def test_value_of_a_body(self):
        callee = function((end(0),), 0, kinds=(in_pair(0),), result=in_pair(0), formals=2, touch=(0,))
        self.accept(with_main(callee, ()))
        self.refuse(with_main(replace(callee, (4,), in_pair(1)), ()), (0,), "kind")

    def test_value_of_a_closure(self):
        kind = ("fn", (in_pair(0), in_pair(0)))
        steps = (new(0), new(1), closure(2, 1, block((), 1, (1,)), kind), end(0), end(1))
        self.accept_main(*steps)
        self.refuse_main((0, 2, 0), "kind", *replace(steps, (2, 2, 1, 1), in_pair(1)))
        self.refuse_main((0, 2, 0), "kind", *replace(steps, (2, 2, 1, 0), in_pair(1)))

    def test_values_of_arms(self):
        steps = (new(0), new(1), pair(1, 0), pair(2, 1), handle(
            5, block((), 1), block((), 3, (3,)), block((), 1, (4,)), keep=(0, 1), kind=in_pair(0)), end(0), end(1))
        self.accept_main(*steps)
        self.refuse_main((0, 4, 2), "kind", *replace(steps, (4, 7, 2, 2), 2))
        # The normal arm binds what the body gives, in its region.
        self.refuse_main((0, 4, 1), "kind", *replace(steps, (4, 7, 0, 2), 2))

    def test_apply(self):
        kind = ("fn", (in_pair(0), INT))
        front = (new(0), new(1), pair(1, 0), pair(2, 1), closure(4, 1, block((), 0, (3,)), kind))
        self.accept_main(*front, step("apply", 5, INT, (4, 1)), end(0), end(1))
        self.refuse_main((0, 5), "kind", *front, step("apply", 5, INT, (4, 2)), end(0), end(1))

    def test_call(self):
        callee = function((), 0, kinds=(in_pair(0), in_pair(0), in_pair(1)), result=in_pair(0), formals=2)
        front = (new(5), new(6), pair(1, 5), pair(2, 6), end(5), end(6))
        right = call(3, (1, 1, 2), 0, (5, "none"), (6, "none"), kind=in_pair(5))
        self.accept(with_main(callee, front + (right,)))
        self.accept(with_main(callee, front + (call(3, (1, 1, 1), 0, (5, "none"), (5, "none"), kind=in_pair(5)),)))
        for wrong in (replace(right, (3,), (1, 2, 2)), replace(right, (3,), (1, 1, 1)), replace(right, (2,), in_pair(6)),
                      replace(right, (6, 0, 0), 6), replace(right, (6, 1, 0), 5)):
            self.refuse(with_main(callee, front + (wrong,)), (1, 6), "kind")


class ReachTest(RegionCheckTest):
    def test_formals(self):
        callee = function((get(1, 0), end(0)), 0, kinds=(in_pair(0),), formals=1, touch=(0,), result=in_pair(0))
        self.accept(with_main(callee, ()))
        self.refuse(with_main(replace(replace(callee, (2,), ()), (5, 1), (get(1, 0),)), ()), (0, 0), "reach")

    def test_what_touches(self):
        """Every step that touches a region is refused if the region is a formal that the function does not touch."""
        datas = (("two", (("No", ()), ("Yes", (INT,)))),)
        callee = function((end(0),), 0, kinds=(in_pair(0),), formals=1, touch=(0,), result=in_pair(0), name="g")
        rows = (
            (in_pair(0), get(1, 0)),
            (("ref", (INT,), 0), step("deref", 1, INT, (0,))),
            (("ref", (("ref", (INT,), 1),), 0), step("set", 1, UNIT, (0, 2))),
            (("array", (INT,), 0), step("at", 1, INT, (0, 3))),
            (("array", (INT,), 0), step("put", 1, UNIT, (0, 3, 3))),
            (("array", (INT,), 0), step("len", 1, INT, (0,))),
            (("fn", (INT, INT), 0), step("apply", 1, INT, (0, 3))),
            (("data", 0, 0), step("case", 1, INT, (0,), blocks=(block((), 3), block((), 4, (4,))))),
            (INT, step("tuple", 1, in_pair(0), (3, 3), region=0)),
            (INT, step("ref", 1, ("ref", (INT,), 0), (3,), region=0)),
            (INT, step("array", 1, ("array", (INT,), 0), (3, 3), region=0)),
            (INT, step("make", 1, ("data", 0, 0), (3,), 1, region=0)),
            (INT, step("fn", 1, ("fn", (INT, INT), 0), region=0, blocks=(block((), 4, (4,)),))),
            (in_pair(0), call(1, (0,), 0, (0, "keep"), kind=in_pair(0))),
        )
        for kind, one in rows:
            with self.subTest(one[0]):
                kinds = (kind, kind, ("ref", (INT,), 1), INT)
                one = replace(one, (1,), 5)
                asking = function((one, end(0)), 3, kinds=kinds, formals=2, touch=(0,))
                main = function((), 0, name="main", kinds=(INT,))
                self.accept(program(callee, asking, main, datas=datas))
                asking = function((one,), 3, kinds=kinds, formals=2)
                self.refuse(program(callee, asking, main, datas=datas), (1, 0), "reach")

    def test_what_does_not_touch(self):
        kinds = (in_pair(0), ("data", 0, 0), INT)
        for one in (step("case", 3, INT, (1,), blocks=(block((), 2), block((), 2))),
                    step("make", 3, ("data", 0, 0), (), 1), step("raise", 3, in_pair(0), (2,), 0),
                    handle(3, block((), 2), block((), 4, (4,)))):
            asking = function((one,), 2, kinds=kinds, formals=1)
            self.accept(program(asking, function((), 0, name="main", kinds=(INT,)), datas=ENUM))

    def test_call_of_what_does_not_touch(self):
        callee = function((), 0, kinds=(in_pair(0),), formals=1, result=in_pair(0))
        self.accept(with_main(callee, (new(3), pair(1, 3), end(3), call(2, (1,), 0, (3, "none"), kind=in_pair(3)))))

    def test_closures(self):
        """A closure's block may touch the closure's region and what begins in it."""
        own = block((pair(2, 4), get(3, 2)), 3, (1,))
        self.accept_main(new(4), closure(5, 4, own), end(4))
        inner = block((new(6), pair(2, 6), get(3, 2), end(6)), 3, (1,))
        self.accept_main(new(4), closure(5, 4, inner), end(4))
        self.refuse_main((0, 2, 0, 0), "reach", new(4), new(6), closure(5, 4, own[:1] + ((pair(2, 6),), 1)), end(6), end(4))
        self.refuse_main((0, 3, 0, 0), "reach", new(4), new(6), pair(7, 6),
                         closure(5, 4, block((get(2, 7),), 2, (1,))), end(6), end(4))

    def test_formals_in_closures(self):
        """A formal that the function touches is still none that its closures may touch."""
        def asking(region):
            inner = closure(3, region, block((get(2, 0),), 2, (1,)))
            return with_main(function((new(1), inner, end(1), end(0)), 0, kinds=(in_pair(0),), result=in_pair(0),
                                      formals=1, touch=(0,)), ())

        self.accept(asking(0))
        self.refuse(asking(1), (0, 1, 0, 0), "reach")

    def test_inner_closures(self):
        """A closure in a closure may touch neither the outer one's region nor what begins in the outer one."""
        def nest(region, *steps):
            inner = closure(3, region, block(steps, 2, (2,)))
            outer = closure(9, 4, block((new(6), inner, end(6)), 1, (1,)))
            return main_of((new(4), outer, end(4)), 0)

        self.accept(nest(4, pair(5, 4)))
        self.accept(nest(6, pair(5, 6)))
        self.accept(nest(6, new(7), pair(5, 7), end(7)))
        self.refuse(nest(6, pair(5, 4)), (0, 1, 0, 1, 0, 0), "reach")
        self.refuse(nest(4, pair(5, 6)), (0, 1, 0, 1, 0, 0), "reach")

    def test_blocks_of_closures(self):
        """What begins in a block of a step within a closure's block begins in the closure's block."""
        inner = block((FLAG, branch(5, block((new(6), pair(3, 6), end(6)), 2), block((), 2))), 5, (2,))
        self.accept_main(new(4), closure(9, 4, inner), end(4))

    def test_end(self):
        self.refuse(with_main(function((end(0),), 0, kinds=(in_pair(0),), result=in_pair(0), formals=1), ()),
                    (0, 0), "reach")
        self.refuse_main((0, 1, 0, 0), "reach", new(4), closure(9, 4, block((end(4),), 1, (1,))))
        self.refuse_main((0, 2, 0, 0), "reach", new(4), new(5), closure(9, 4, block((end(5),), 1, (1,))), end(4))

    def test_last(self):
        callee = function((end(0),), 0, kinds=(in_pair(0),), result=in_pair(0), formals=1, touch=(0,))
        inner = block((pair(2, 4), call(3, (2,), 0, (4, "keep"), kind=in_pair(4))), 1, (1,))
        self.accept(with_main(callee, (new(4), closure(9, 4, inner), end(4))))
        last = replace(inner, (1, 1, 6, 0, 1), "last")
        self.refuse(with_main(callee, (new(4), closure(9, 4, last))), (1, 1, 0, 1), "reach")
        # A region that is handed over without being touched must be owned, too; the mode is looked at later.
        idle = replace(replace(callee, (2,), ()), (5, 1), ())
        other = function((call(1, (0,), 0, (0, "last"), kind=in_pair(0)),), 0, kinds=(in_pair(0),), result=in_pair(0),
                         formals=1)
        self.refuse(program(idle, other, function((), 0, name="main", kinds=(INT,))), (1, 0), "reach")

    def test_kept(self):
        body, normal = block((), 1), block((), 2, (2,))
        self.refuse_main((0, 1, 0, 0), "reach", new(4), closure(9, 4, block((handle(3, body, normal, keep=(4,)),), 1, (1,))),
                         end(4))
        asking = function((handle(3, block((), 1), normal, keep=(0,)),), 1, kinds=(in_pair(0), INT), formals=1)
        self.refuse(with_main(asking, ()), (0, 0), "reach")
        self.accept(with_main(replace(replace(asking, (2,), (0,)), (5, 1), asking[5][1] + (end(0),)), ()))


class EndedTest(RegionCheckTest):
    def test_touch_behind_the_end(self):
        self.accept_main(new(0), pair(1, 0), get(2, 1), end(0))
        self.refuse_main((0, 3), "ended", new(0), pair(1, 0), end(0), get(2, 1))
        self.refuse_main((0, 2), "ended", new(0), end(0), pair(1, 0))

    def test_end_twice(self):
        self.refuse_main((0, 2), "ended", new(0), end(0), end(0))
        callee = function((end(0), end(0)), 0, kinds=(INT,), formals=1, touch=(0,))
        self.refuse(with_main(callee, ()), (0, 1), "ended")

    def test_in_blocks(self):
        self.refuse_main((0, 3, 0, 0), "ended", FLAG, new(0), end(0), branch(2, block((pair(3, 0),), 0), block((), 0)))
        self.refuse_main((0, 3), "ended", FLAG, new(0), branch(2, block((end(0),), 0), block((end(0),), 0)), pair(3, 0))

    def test_behind_a_last_pair(self):
        callee = function((end(0),), 0, kinds=(in_pair(0),), result=in_pair(0), formals=1, touch=(0,))
        over = call(2, (1,), 0, (3, "last"), kind=in_pair(3))
        self.accept(with_main(callee, (new(3), pair(1, 3), over)))
        self.refuse(with_main(callee, (new(3), pair(1, 3), over, get(4, 2))), (1, 3), "ended")
        self.refuse(with_main(callee, (new(3), pair(1, 3), over, end(3))), (1, 3), "ended")
        self.refuse(with_main(callee, (new(3), pair(1, 3), over, replace(over, (1,), 5))), (1, 3), "ended")
        self.refuse(with_main(callee, (new(3), pair(1, 3), end(3), replace(over, (6, 0, 1), "keep"))), (1, 3), "ended")

    def test_not_kept(self):
        """The arms begin with the kept regions only."""
        arms = (block((get(2, 1),), 2, (3,)), block((), 4, (4,)))
        body = block((end(0),), 0)
        self.refuse_main((0, 2, 1, 0), "ended", new(0), pair(1, 0), handle(5, body, *arms))

    def test_not_owned(self):
        """A closure's own region is not live in its block and may be touched."""
        self.accept_main(new(4), closure(5, 4, block((pair(2, 4),), 1, (1,))), end(4))
        # The maker has given it back before the call: only the call is refused.
        self.refuse_main((0, 3), "ended", new(4), closure(5, 4, block((pair(2, 4),), 1, (1,))), end(4),
                         step("apply", 6, INT, (5, 0)))


class ModeTest(RegionCheckTest):
    CALLEE = function((get(2, 0), end(0)), 2, kinds=(in_pair(0), in_pair(1)), formals=2, touch=(0,))

    def use(self, *use, ends=()):
        steps = (new(3), new(4), pair(1, 3), pair(2, 4), call(3, (1, 2), 0, *use), *map(end, ends))
        return with_main(self.CALLEE, steps)

    def test_touched(self):
        self.accept(self.use((3, "last"), (4, "none"), ends=(4,)))
        self.accept(self.use((3, "keep"), (4, "none"), ends=(3, 4)))
        self.refuse(self.use((3, "none"), (4, "none"), ends=(3, 4)), (1, 4), "mode")

    def test_not_touched(self):
        self.refuse(self.use((3, "keep"), (4, "keep"), ends=(3, 4)), (1, 4), "mode")
        self.refuse(self.use((3, "keep"), (4, "last"), ends=(3,)), (1, 4), "mode")

    def test_two_pairs(self):
        def shared(touch, *modes):
            steps = tuple(step("get", 2 + at, INT, (at,), 0) for at in touch) + tuple(end(at) for at in touch)
            callee = function(steps, 2, kinds=(in_pair(0), in_pair(1)), formals=2, touch=touch)
            use = tuple((3, mode) for mode in modes)
            ends = () if "last" in modes else (end(3),)
            return with_main(callee, (new(3), pair(1, 3), call(2, (1, 1), 0, *use), *ends))

        self.accept(shared((0, 1), "keep", "keep"))
        self.accept(shared((0,), "keep", "none"))
        for touch, modes in (((0, 1), ("last", "keep")), ((0, 1), ("keep", "last")), ((0, 1), ("last", "last")),
                             ((0,), ("last", "none"))):
            self.refuse(shared(touch, *modes), (1, 2), "mode")


class KeptTest(RegionCheckTest):
    NORMAL = block((), 2, (2,))

    def test_live_at_the_step(self):
        self.refuse_main((0, 2), "kept", new(0), end(0), handle(3, block((), 0), self.NORMAL, keep=(0,)))
        callee = function((end(0),), 0, kinds=(in_pair(0),), result=in_pair(0), formals=1, touch=(0,))
        over = call(4, (1,), 0, (3, "last"), kind=in_pair(3))
        self.refuse(with_main(callee, (new(3), pair(1, 3), over, handle(5, block((), 0), self.NORMAL, keep=(3,)))),
                    (1, 3), "kept")

    def test_consumed_in_the_body(self):
        body = block((end(0), new(1), end(1)), 0)
        self.refuse_main((0, 1, 0, 0), "kept", new(0), handle(3, body, self.NORMAL, keep=(0,)))
        self.accept_main(new(0), handle(3, body, self.NORMAL))
        callee = function((end(0),), 0, kinds=(in_pair(0),), result=in_pair(0), formals=1, touch=(0,))
        over = block((call(4, (1,), 0, (3, "last"), kind=in_pair(3)),), 0)
        self.accept(with_main(callee, (new(3), pair(1, 3), handle(5, over, self.NORMAL))))
        self.refuse(with_main(callee, (new(3), pair(1, 3), handle(5, over, self.NORMAL, keep=(3,)), end(3))),
                    (1, 2, 0, 0), "kept")

    def test_consumed_deeper(self):
        deeper = block((FLAG, branch(5, block((end(0),), 0), block((end(0),), 0))), 0)
        self.refuse_main((0, 1, 0, 1, 0, 0), "kept", new(0), handle(3, deeper, self.NORMAL, keep=(0,)))
        self.accept_main(new(0), handle(3, deeper, self.NORMAL))
        # In the body of an inner handle step, and in its arms.
        inner = handle(6, block((end(0),), 0), block((), 7, (7,)))
        self.refuse_main((0, 1, 0, 0, 0, 0), "kept", new(0), handle(3, block((inner,), 0), self.NORMAL, keep=(0,)))
        arms = handle(6, block((), 0), block((end(0),), 7, (7,)), keep=(0,))
        self.refuse_main((0, 1, 0, 0, 1, 0), "kept", new(0), handle(3, block((arms,), 0), self.NORMAL, keep=(0,)))
        self.accept_main(new(0), handle(3, block((arms,), 0), self.NORMAL))

    def test_consumed_in_an_arm(self):
        arms = (block((end(0),), 2, (2,)), block((end(0),), 4, (4,)))
        self.accept_main(new(0), handle(3, block((), 0), *arms, keep=(0,)))

    def test_closures_in_the_body(self):
        """In a closure's block the regions are other ones, and nothing is kept."""
        maker = closure(9, 0, block((new(5), end(5)), 8, (8,)))
        self.accept_main(new(0), handle(3, block((maker,), 0), self.NORMAL, keep=(0,)), end(0))

    def test_end_of_the_body(self):
        """At the end of the body exactly the kept regions are live."""
        self.refuse_main((0, 1, 0), "kept", new(0), handle(3, block((), 0), self.NORMAL), end(0))
        self.refuse_main((0, 2, 0), "kept", new(0), new(1), handle(3, block((), 0), self.NORMAL, keep=(1,)), end(1))
        self.refuse_main((0, 0, 0), "kept", handle(3, block((new(0),), 0), self.NORMAL))
        self.accept_main(handle(3, block((new(0), end(0)), 0), self.NORMAL))
        self.accept_main(new(0), new(1), handle(3, block((end(0),), 0), self.NORMAL, keep=(1,)), end(1))


class EndsOfBlocksTest(RegionCheckTest):
    def test_left(self):
        self.refuse_main((0,), "left", new(0))
        self.accept_main(new(0), end(0))
        self.refuse(with_main(function((), 0, kinds=(INT,), formals=1, touch=(0,)), ()), (0,), "left")
        self.refuse(with_main(function((), 0, kinds=(INT,)), (new(2),)), (1,), "left")

    def test_left_in_closures(self):
        self.refuse_main((0, 1, 0), "left", new(4), closure(5, 4, block((new(6),), 1, (1,))), end(4))
        self.accept_main(new(4), closure(5, 4, block((new(6), end(6)), 1, (1,))), end(4))

    def test_left_out_of_scope(self):
        """A region that is live at the end of its block in all blocks is left at the end of the body."""
        datas = (("one", (("One", ()),)),)
        case = step("case", 3, INT, (2,), blocks=(block((new(5),), 0),))
        front = (new(4), end(4), step("make", 2, ("data", 0, 4), (), 0))
        self.refuse_main((0,), "left", *front, case, datas=datas)
        self.refuse_main((0, 4), "scope", *front, case, end(5), datas=datas)

    def test_join(self):
        one, two = block((end(0),), 0), block((), 0)
        self.refuse_main((0, 2), "join", FLAG, new(0), branch(2, one, two), end(0))
        self.refuse_main((0, 2), "join", FLAG, new(0), branch(2, two, one), end(0))
        self.accept_main(FLAG, new(0), branch(2, one, one))
        self.accept_main(FLAG, new(0), branch(2, two, two), end(0))
        self.refuse_main((0, 1), "join", FLAG, branch(2, block((new(0),), 0), two))

    def test_join_of_case(self):
        datas = (("three", (("A", ()), ("B", ()), ("C", ()))),)
        front = (new(4), step("make", 2, ("data", 0, 4), (), 0))
        for number_of in range(3):
            blocks = [block((), 0)] * 3
            blocks[number_of] = block((end(4),), 0)
            self.refuse_main((0, 2), "join", *front, step("case", 3, INT, (2,), blocks=blocks), end(4), datas=datas)

    def test_join_of_arms(self):
        normal, arm = block((), 2, (2,)), block((end(0),), 3, (3,))
        self.refuse_main((0, 1), "join", new(0), handle(5, block((), 0), normal, arm, keep=(0,)), end(0))
        self.refuse_main((0, 1), "join", new(0), handle(5, block((), 0), arm, normal, keep=(0,)), end(0))
        self.accept_main(new(0), handle(5, block((), 0), arm, block((end(0),), 4, (4,)), keep=(0,)))

    def test_escapes(self):
        body = block((new(0), pair(1, 0), end(0)), 1)
        arm = block((), 0, (2,))
        self.refuse_main((0, 0, 0), "escapes", handle(3, body, arm))
        self.accept_main(new(0), handle(3, block((pair(1, 0),), 1), arm, keep=(0,)), end(0))
        nested = ("ref", (in_pair(1),), 0)
        body = block((new(1), end(1), step("raise", 1, nested, (0,), 0)), 1)
        self.refuse_main((0, 1, 0), "escapes", new(0), handle(3, body, arm, keep=(0,)), end(0))

    def test_escapes_through_blocks(self):
        """A value of a block of `if` in a region of the block is of another kind than the step."""
        first, second = block((new(0), pair(2, 0), end(0)), 2), block((new(1), pair(4, 1), end(1)), 4)
        self.refuse_main((0, 1), "scope", FLAG, branch(3, first, second, in_pair(0)))
        self.refuse_main((0, 3, 0), "kind", FLAG, new(5), end(5), branch(3, first, second, in_pair(5)))


class OrderTest(RegionCheckTest):
    """Programs in which two conditions are due: the first one in the order of the visit and of the reasons."""

    def test_scope_before_kind(self):
        self.refuse_main((0, 1), "scope", new(0), step("tuple", 1, in_pair(0), (0, 0), region=1))
        self.refuse_main((0, 2), "kind", new(0), new(1), step("tuple", 1, in_pair(0), (0, 0), region=1))

    def test_kind_before_reach(self):
        callee = function((step("ref", 1, ("ref", (in_pair(1),), 0), (0,), region=0),), 0, kinds=(in_pair(0),),
                          result=in_pair(0), formals=2)
        self.refuse(with_main(callee, ()), (0, 0), "kind")
        self.refuse(with_main(replace(callee, (5, 1, 0, 2, 1, 0), in_pair(0)), ()), (0, 0), "reach")

    def test_reach_before_ended(self):
        asking = function((end(0), call(1, (0,), 0, (1, "keep"), (0, "keep"))), 0, kinds=(INT,), formals=2, touch=(0,))
        callee = function((end(0), end(1)), 0, kinds=(INT,), formals=2, touch=(0, 1), name="g")
        main = function((), 0, name="main", kinds=(INT,))
        self.refuse(program(callee, asking, main), (1, 1), "reach")
        self.refuse(program(callee, replace(asking, (5, 1, 1, 6, 0, 0), 0), main), (1, 1), "ended")

    def test_ended_before_mode(self):
        callee = function((end(0),), 0, kinds=(INT,), formals=2, touch=(0,))
        steps = (new(3), new(4), end(3), call(1, (0,), 0, (3, "keep"), (4, "keep")), end(4))
        self.refuse(with_main(callee, steps), (1, 3), "ended")
        self.refuse(with_main(callee, steps[:2] + steps[3:]), (1, 2), "mode")

    def test_mode_before_kept(self):
        callee = function((end(0),), 0, kinds=(INT,), formals=2, touch=(0,))
        inner = block((call(1, (0,), 0, (3, "last"), (3, "none")),), 0)
        steps = (new(3), handle(5, inner, block((), 2, (2,)), keep=(3,)), end(3))
        self.refuse(with_main(callee, steps), (1, 1, 0, 0), "mode")
        single = replace(replace(callee, (1,), 1), (5, 1), (end(0),))
        steps = replace(steps, (1, 7, 0, 1, 0, 6), ((3, "last"),))
        self.refuse(with_main(single, steps), (1, 1, 0, 0), "kept")

    def test_reach_before_kept(self):
        inner = handle(3, block((), 1), block((), 2, (2,)), keep=(4,))
        self.refuse_main((0, 2, 0, 0), "reach", new(4), new(5), closure(9, 5, block((inner,), 1, (1,))), end(4), end(5))

    def test_end_of_a_block(self):
        # kind before left
        callee = function((new(2), number(3), pair(1, 2, 3, 3)), 1, kinds=(in_pair(0),), result=in_pair(0), formals=1)
        self.refuse(with_main(callee, ()), (0,), "kind")
        self.refuse(with_main(replace(callee, (5, 2), 0), ()), (0,), "left")
        # escapes before kept
        self.refuse_main((0, 0, 0), "escapes", handle(3, block((new(0), pair(1, 0)), 1), block((), 0, (2,))))
        # kept before what the arms do
        self.refuse_main((0, 1, 0), "kept", new(0), handle(3, block((), 0), block((pair(9, 5),), 2, (2,))))

    def test_join_behind_the_blocks(self):
        one = block((end(0),), 0)
        self.refuse_main((0, 2, 1, 0), "scope", FLAG, new(0), branch(2, one, block((pair(9, 5),), 0)))
        self.refuse_main((0, 2), "join", FLAG, new(0), branch(2, one, block((), 0)), pair(9, 5))

    def test_a_step_before_its_blocks(self):
        inner = block((pair(9, 5),), 0)
        kept = handle(3, inner, block((), 2, (2,)), keep=(0,))
        self.refuse_main((0, 2), "kept", new(0), end(0), kept)

    def test_functions_in_order(self):
        callee = function((new(0),), 0, kinds=(INT,))
        self.refuse(with_main(callee, (end(0),)), (0,), "left")
        self.refuse(with_main(replace(callee, (5, 1), ()), (end(0),)), (1, 0), "scope")

    def test_run_looks_for_scope_and_kind_only(self):
        """Errors that a run does not look for do not hide those that it does."""
        steps = (new(0), end(0), pair(1, 0), step("ref", 2, ("ref", (INT,), 0), (1,), region=0))
        flat_right = replace(steps, (3, 2), ("ref", (in_pair(7),), 0))
        value = main_of(flat_right, 0)
        self.assertEqual(region_fault(value), ((0, 2), "ended"))
        self.assertEqual(region_fault(value, lambda it: regions.run(it, (1,))), ((0, 3), "scope"))
        # It looks for them before it looks at the number of the arguments.
        self.assertEqual(region_fault(value, lambda it: regions.run(it, ())), ((0, 3), "scope"))
        right = main_of(steps[:3], 0)
        self.assertEqual(regions.run(right, ()), ((("stuck",), 0, (), 0), 0, 0, ()))


class NumbersTest(RegionCheckTest):
    def test_own_call(self):
        """A function may call itself with other regions than its own."""
        over = call(3, (2,), 0, (5, "last"))
        inner = block((end(0), new(5), pair(2, 5, 4, 4), over), 3)
        callee = function((get(4, 0), FLAG, branch(6, inner, block((end(0),), 4))), 6, kinds=(in_pair(0),), formals=1,
                          touch=(0,))
        self.accept(with_main(callee, (new(9), pair(1, 9), call(2, (1,), 0, (9, "last")))))

    def test_numbers_with_gaps(self):
        self.accept_main(new(900), new(3), pair(1, 900), pair(2, 3), end(900), get(4, 2), end(3))

    def test_results_of_int(self):
        self.accept_main(number(1, 5), value=1)


if __name__ == "__main__":
    unittest.main()
