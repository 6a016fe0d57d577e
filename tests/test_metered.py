"""Metered runs: every event, the peak and what is left."""

import random
import unittest

from escheat import flat, place, regions
from escheat.errors import KindError
from escheat.kinds import with_kinds
from tests import region_reference
from tests.helpers import INT, UNIT, replace
from tests.programs import block, end, flattened, function, in_pair, main_of, new, number, pair, program, region_fault, step
from tests.random_trees import Maker
from tests.region_changes import changed

LISTS = (("list", (("Nil", ()), ("Cons", (INT, ("data", 0, 0))))),)


def get(out, variable, info=0):
    return step("get", out, INT, (variable,), info)


def call(out, ins, info, *use, kind=INT):
    return step("call", out, kind, ins, info, use=use)


class MeterTest(unittest.TestCase):
    def check(self, value, wanted, *, result=None, arguments=(7,), fuel=200, peak=None, left=0):
        """Check the events, in which the words held are left out; 'what' and the instance alone for touch and new."""
        found = regions.run(value, arguments, fuel=fuel)
        self.assertEqual(found, region_reference.run(value, arguments, fuel))
        held, words, events = 0, {}, []
        for what, instance, *more in wanted:
            many = more[0] if more else 0
            if what == "new":
                words[instance] = 0
            if what == "cell":
                words[instance] += many
                held += many
            if what == "end":
                many = words[instance]
                held -= many
            events.append((what, instance, many, held))
        self.assertEqual(found[3], tuple(events))
        self.assertEqual(found[1], max([event[3] for event in events], default=0) if peak is None else peak)
        self.assertEqual(found[2], left)
        if result is not None:
            self.assertEqual(found[0], result if isinstance(result, tuple) else (None, result, (), 0))
        return found


class OpsTest(MeterTest):
    def around(self, *steps, value=0, region=0, **more):
        return main_of((new(region), *steps, end(region)), value, **more)

    def test_no_cells(self):
        self.check(main_of((), 0), (), result=7)
        steps = (number(1), step("bool", 2, ("bool", (), 0), (), True), step("unit", 3, UNIT), step("print", 4, UNIT, (0,)),
                 step("add", 5, INT, (0, 1)), step("less", 6, ("bool", (), 0), (0, 1)))
        self.check(main_of(steps, 5), (), result=(None, 8, (7,), 0))

    def test_tuples(self):
        self.check(self.around(pair(1, 0), get(2, 1), get(3, 1, 1), value=3),
                   [("new", 0), ("cell", 0, 2), ("touch", 0), ("touch", 0), ("end", 0)], result=7)
        six = step("tuple", 1, ("tuple", (INT,) * 6, 0), (0,) * 6, region=0)
        self.check(self.around(six), [("new", 0), ("cell", 0, 6), ("end", 0)], result=7, peak=6)

    def test_data(self):
        kind = ("data", 0, 0)
        nil, cons = step("make", 1, kind, (), 0), step("make", 2, kind, (0, 1), 1, region=0)
        self.check(self.around(nil, datas=LISTS), [("new", 0), ("end", 0)], result=7)
        self.check(self.around(nil, cons, datas=LISTS), [("new", 0), ("cell", 0, 3), ("end", 0)])
        for variable, touch in ((1, []), (2, [("touch", 0)])):
            case = step("case", 5, INT, (variable,), blocks=(block((), 0), block((), 3, (3, 4))))
            self.check(self.around(nil, cons, case, value=5, datas=LISTS),
                       [("new", 0), ("cell", 0, 3), *touch, ("end", 0)], result=7)

    def test_constructors_of_all_sizes(self):
        datas = (("d", tuple((f"C{many}", (INT,) * many) for many in range(7))),)
        for many in range(1, 7):
            made = step("make", 1, ("data", 0, 0), (0,) * many, many, region=0)
            self.check(self.around(made, datas=datas), [("new", 0), ("cell", 0, 1 + many), ("end", 0)])

    def test_refs(self):
        ref = step("ref", 1, ("ref", (INT,), 0), (0,), region=0)
        steps = (ref, number(2, 9), step("set", 3, UNIT, (1, 2)), step("deref", 4, INT, (1,)))
        self.check(self.around(*steps, value=4), [("new", 0), ("cell", 0, 1), ("touch", 0), ("touch", 0), ("end", 0)],
                   result=9)

    def test_arrays(self):
        kind = ("array", (INT,), 0)
        for many in (0, 1, 12):
            steps = (number(1, many), step("array", 2, kind, (1, 0), region=0), step("len", 3, INT, (2,)))
            self.check(self.around(*steps, value=3), [("new", 0), ("cell", 0, 1 + many), ("touch", 0), ("end", 0)],
                       result=(None, many, (), many))
        steps = (number(1, 3), step("array", 2, kind, (1, 0), region=0), number(3, 2), step("put", 4, UNIT, (2, 3, 1)),
                 step("at", 5, INT, (2, 3)))
        self.check(self.around(*steps, value=5), [("new", 0), ("cell", 0, 4), ("touch", 0), ("touch", 0), ("end", 0)],
                   result=(None, 3, (), 3))

    def test_faults_of_arrays(self):
        """Size comes before everything, Index behind the touch."""
        kind = ("array", (INT,), 0)
        for many in (13, -1):
            steps = (number(1, many), step("array", 2, kind, (1, 0), region=0))
            self.check(self.around(*steps), [("new", 0), ("end", 0)], result=(("raised", "Size", many), 0, (), 0))
        for one in (step("at", 4, INT, (2, 3)), step("put", 4, UNIT, (2, 3, 3))):
            steps = (number(1, 2), step("array", 2, kind, (1, 0), region=0), number(3, 2), one)
            self.check(self.around(*steps), [("new", 0), ("cell", 0, 3), ("touch", 0), ("end", 0)],
                       result=(("raised", "Index", 2), 0, (), 2))

    def test_closures(self):
        kind = ("fn", (INT, INT), 0)
        for inner, words in ((block((), 2, (2,)), 2), (block((), 0, (2,)), 3),
                             (block((step("add", 3, INT, (0, 1)),), 3, (2,)), 4),
                             (block((step("add", 3, INT, (0, 0)),), 3, (2,)), 3)):
            steps = (number(1, 5), step("fn", 8, kind, region=0, blocks=(inner,)), step("apply", 9, INT, (8, 1)))
            self.check(self.around(*steps), [("new", 0), ("cell", 0, words), ("touch", 0), ("end", 0)],
                       result=(None, 7, (), 1))

    def test_what_inner_closures_capture(self):
        kind = ("fn", (INT, INT), 0)
        innermost = step("fn", 5, kind, region=0, blocks=(block((step("add", 4, INT, (3, 0)),), 4, (3,)),))
        outer = step("fn", 6, ("fn", (INT, kind), 0), region=0, blocks=(block((innermost,), 5, (2,)),))
        steps = (outer, step("apply", 7, kind, (6, 0)), step("apply", 8, INT, (7, 0)))
        self.check(self.around(*steps, value=8), [("new", 0), ("cell", 0, 3), ("touch", 0), ("cell", 0, 3), ("touch", 0),
                                                  ("end", 0)], result=(None, 14, (), 2))

    def test_wrong_number_of_arguments(self):
        value = self.around(pair(1, 0))
        for arguments in ((), (1, 2)):
            self.assertEqual(regions.run(value, arguments), ((("stuck",), 0, (), 0), 0, 0, ()))

    def test_arguments_are_wrapped(self):
        self.check(main_of((), 0), (), arguments=(2 ** 31 + 5,), result=-2 ** 31 + 5)


class RegionsTest(MeterTest):
    def test_several_regions(self):
        steps = (new(5), pair(1, 5), new(3), pair(2, 3), pair(3, 5), end(5), get(4, 2), new(9), end(9), end(3))
        found = self.check(main_of(steps, 4), [
            ("new", 0), ("cell", 0, 2), ("new", 1), ("cell", 1, 2), ("cell", 0, 2), ("end", 0), ("touch", 1), ("new", 2),
            ("end", 2), ("end", 1)], result=7, peak=6)
        self.assertEqual(found[3][5], ("end", 0, 4, 2))

    def test_left(self):
        self.check(main_of((new(5), pair(1, 5)), 0), [("new", 0), ("cell", 0, 2)], left=2, peak=2)

    def test_end_without_a_handle(self):
        self.check(main_of((new(5), pair(1, 5), end(5), end(5)), 0), [("new", 0), ("cell", 0, 2), ("end", 0)])

    def test_touch_faults(self):
        """A cell needs a handle on an instance that has not ended, and reading needs that the instance has not."""
        kind = ("fn", (INT, INT), 0)
        datas = LISTS
        made = {
            "tuple": (pair(1, 0), [get(2, 1)], 2),
            "ref": (step("ref", 1, ("ref", (INT,), 0), (0,), region=0),
                    [step("deref", 2, INT, (1,)), step("set", 2, UNIT, (1, 0))], 1),
            "array": (step("array", 1, ("array", (INT,), 0), (0, 0), region=0),
                      [step("at", 2, INT, (1, 0)), step("put", 2, UNIT, (1, 0, 0)), step("len", 2, INT, (1,))], 8),
            "fn": (step("fn", 1, kind, region=0, blocks=(block((), 9, (9,)),)), [step("apply", 2, INT, (1, 0))], 2),
        }
        for one, readers, words in made.values():
            self.check(main_of((new(0), end(0), one), 0, datas=datas), [("new", 0), ("end", 0)],
                       result=(("touch",), 0, (), 7 if one[0] == "array" else 0))
            for reader in readers:
                ticks = (7 if one[0] == "array" else 0) + (reader[0] == "apply")
                self.check(main_of((new(0), one, end(0), reader), 0, datas=datas),
                           [("new", 0), ("cell", 0, words), ("end", 0)], result=(("touch",), 0, (), ticks), peak=words)

    def test_touch_faults_of_data(self):
        nil, cons = step("make", 1, ("data", 0, 0), (), 0), step("make", 2, ("data", 0, 0), (0, 1), 1, region=0)
        self.check(main_of((new(0), end(0), nil), 0, datas=LISTS), [("new", 0), ("end", 0)], result=7)
        self.check(main_of((new(0), end(0), nil, cons), 0, datas=LISTS), [("new", 0), ("end", 0)],
                   result=(("touch",), 0, (), 0))
        for variable, result in ((1, 7), (2, (("touch",), 0, (), 0))):
            case = step("case", 5, INT, (variable,), blocks=(block((), 0), block((), 3, (3, 4))))
            self.check(main_of((new(0), nil, cons, end(0), case), 5, datas=LISTS),
                       [("new", 0), ("cell", 0, 3), ("end", 0)], result=result)

    def test_what_comes_before_a_touch_fault(self):
        array = step("array", 1, ("array", (INT,), 0), (0, 0), region=0)
        steps = (new(0), end(0), step("print", 3, UNIT, (0,)), array)
        events = [("new", 0), ("end", 0)]
        self.check(main_of(steps, 0), events, arguments=(13,), result=(("raised", "Size", 13), 0, (13,), 0))
        self.check(main_of(steps, 0), events, arguments=(5,), fuel=4, result=(("fuel",), 0, (5,), 4))
        self.check(main_of(steps, 0), events, arguments=(5,), fuel=5, result=(("touch",), 0, (5,), 5))
        late = (new(0), array, end(0), number(2, 99), step("at", 3, INT, (1, 2)))
        self.check(main_of(late, 0), [("new", 0), ("cell", 0, 2), ("end", 0)], arguments=(1,), peak=2,
                   result=(("touch",), 0, (), 1))

    def test_nothing_ends_at_a_touch_fault(self):
        steps = (new(4), pair(2, 4), new(0), end(0), pair(1, 0))
        self.check(main_of((step("handle", 9, INT, (), (0, 1, 2), use=(), blocks=(
            block(steps, 0), block((), 5, (5,)), block((), 6, (6,)), block((), 7, (7,)), block((), 8, (8,)))),), 9),
            [("new", 0), ("cell", 0, 2), ("new", 1), ("end", 1)], result=(("touch",), 0, (), 0), left=2)


class CallsTest(MeterTest):
    CALLEE = function((get(1, 0), end(0), new(1), pair(2, 1, 1, 1), get(3, 2), end(1)), 3, kinds=(in_pair(0),), formals=1,
                      touch=(0,))

    def test_kept(self):
        steps = (new(4), pair(1, 4), call(2, (1,), 0, (4, "keep")), get(3, 1), end(4))
        self.check(program(self.CALLEE, function(steps, 2, name="main", kinds=(INT,))), [
            ("new", 0), ("cell", 0, 2), ("touch", 0), ("new", 1), ("cell", 1, 2), ("touch", 1), ("end", 1), ("touch", 0),
            ("end", 0)], result=(None, 7, (), 1))

    def test_last(self):
        steps = (new(4), pair(1, 4), call(2, (1,), 0, (4, "last")))
        self.check(program(self.CALLEE, function(steps, 2, name="main", kinds=(INT,))), [
            ("new", 0), ("cell", 0, 2), ("touch", 0), ("end", 0), ("new", 1), ("cell", 1, 2), ("touch", 1), ("end", 1),
        ], result=(None, 7, (), 1), peak=2)

    def test_last_of_what_is_not_owned(self):
        """The caller's handle stays if it does not own; then neither does the callee's."""
        middle = function((call(1, (0,), 0, (0, "last")), get(2, 0), end(0)), 1, kinds=(in_pair(0),), formals=1, touch=(0,),
                          name="g")
        steps = (new(4), pair(1, 4), call(2, (1,), 1, (4, "keep")), end(4))
        value = program(self.CALLEE, middle, function(steps, 2, name="main", kinds=(INT,)))
        self.assertEqual(region_fault(value), ((1, 1), "ended"))
        self.check(value, [("new", 0), ("cell", 0, 2), ("touch", 0), ("new", 1), ("cell", 1, 2), ("touch", 1), ("end", 1),
                           ("touch", 0), ("end", 0)], result=(None, 7, (), 2))

    def test_handle_that_stays(self):
        """The handle that does not own is still there behind the call, so a cell can be made."""
        middle = function((call(1, (0,), 0, (0, "last")), pair(2, 0, 1, 1), end(0)), 1, kinds=(in_pair(0),), formals=1,
                          touch=(0,), name="g")
        steps = (new(4), pair(1, 4), call(2, (1,), 1, (4, "keep")), end(4))
        value = program(self.CALLEE, middle, function(steps, 2, name="main", kinds=(INT,)))
        self.check(value, [("new", 0), ("cell", 0, 2), ("touch", 0), ("new", 1), ("cell", 1, 2), ("touch", 1), ("end", 1),
                           ("cell", 0, 2), ("end", 0)], result=(None, 7, (), 2))

    def test_handle_on_what_has_ended(self):
        """A second handle on the same instance is there when the instance has ended, and makes no cell."""
        callee = function((end(1), pair(1, 0, 0, 0), end(0)), 0, kinds=(INT,), formals=2, touch=(0, 1))
        steps = (new(4), call(2, (0,), 0, (4, "keep"), (4, "last")))
        self.check(program(callee, function(steps, 2, name="main", kinds=(INT,))), [("new", 0), ("end", 0)],
                   result=(("touch",), 0, (), 1))

    def test_last_twice(self):
        """A region that is handed over for good is gone at once, for the later formals as well."""
        callee = function((get(2, 1), end(0), end(1)), 2, kinds=(in_pair(0), in_pair(1)), formals=2, touch=(0, 1))
        for modes, events, fault in (
            (("last", "keep"), [("touch", 0), ("end", 0)], None),
            (("keep", "last"), [("touch", 0), ("end", 0)], None),
            (("last", "last"), [("touch", 0), ("end", 0)], None),
            (("keep", "keep"), [("touch", 0)], None),
        ):
            steps = (new(4), pair(1, 4), call(2, (1, 1), 0, (4, modes[0]), (4, modes[1])))
            value = program(callee, function(steps, 2, name="main", kinds=(INT,)))
            self.check(value, [("new", 0), ("cell", 0, 2), *events], result=(fault, 7, (), 1), peak=2,
                       left=0 if "last" in modes else 2)

    def test_no_handle_behind_last(self):
        """The second formal has no handle, so the callee can make no cell in it."""
        callee = function((end(0), pair(2, 1, 0, 0), end(1)), 0, kinds=(INT,), formals=2, touch=(0, 1))
        steps = (new(4), call(2, (0,), 0, (4, "last"), (4, "keep")))
        self.check(program(callee, function(steps, 2, name="main", kinds=(INT,))), [("new", 0), ("end", 0)],
                   result=(("touch",), 0, (), 1))
        steps = (new(4), call(2, (0,), 0, (4, "keep"), (4, "keep")), end(4))
        self.check(program(callee, function(steps, 2, name="main", kinds=(INT,))),
                   [("new", 0), ("cell", 0, 2), ("end", 0)], result=(None, 7, (), 1))

    def test_not_touched(self):
        """A formal that is not touched gets no handle, whatever the mode is."""
        callee = function((pair(1, 0, 0, 0),), 0, kinds=(INT,), formals=1)
        for mode in ("none", "keep", "last"):
            steps = (new(4), call(2, (0,), 0, (4, mode)), end(4))
            self.check(program(callee, function(steps, 2, name="main", kinds=(INT,))), [("new", 0)],
                       result=(("touch",), 0, (), 1))

    def test_mode_none_of_what_is_touched(self):
        callee = function((pair(1, 0, 0, 0), end(0)), 0, kinds=(INT,), formals=1, touch=(0,))
        steps = (new(4), call(2, (0,), 0, (4, "none")), end(4))
        self.check(program(callee, function(steps, 2, name="main", kinds=(INT,))), [("new", 0), ("cell", 0, 2), ("end", 0)],
                   result=(None, 7, (), 1))

    def test_caller_without_a_handle(self):
        callee = function((pair(1, 0, 0, 0),), 0, kinds=(INT,), formals=1, touch=(0,))
        steps = (new(4), end(4), call(2, (0,), 0, (4, "keep")))
        self.check(program(callee, function(steps, 2, name="main", kinds=(INT,))), [("new", 0), ("end", 0)],
                   result=(("touch",), 0, (), 1))

    def test_return_ends_nothing(self):
        callee = function((new(0), pair(1, 0, 0, 0)), 0, kinds=(INT,))
        steps = (call(1, (0,), 0), call(2, (1,), 0))
        self.check(program(callee, function(steps, 2, name="main", kinds=(INT,))),
                   [("new", 0), ("cell", 0, 2), ("new", 1), ("cell", 1, 2)], result=(None, 7, (), 2), left=4)

    def test_closures(self):
        """The frame of a closure's call has the closure's handle alone, and does not own it."""
        inner = block((pair(3, 4, 2, 2), new(6), pair(5, 6, 2, 2), get(7, 5), end(6)), 7, (2,))
        maker = step("fn", 8, ("fn", (INT, INT), 4), region=4, blocks=(inner,))
        steps = (new(4), maker, step("apply", 9, INT, (8, 0)), step("apply", 10, INT, (8, 0)), end(4))
        once = lambda at: [("touch", 0), ("cell", 0, 2), ("new", at), ("cell", at, 2), ("touch", at), ("end", at)]
        self.check(main_of(steps, 10), [("new", 0), ("cell", 0, 2), *once(1), *once(2), ("end", 0)], peak=8,
                   result=(None, 7, (), 2))

    def test_other_handles_in_closures(self):
        inner = block((pair(3, 5, 2, 2),), 2, (2,))
        maker = step("fn", 8, ("fn", (INT, INT), 4), region=4, blocks=(inner,))
        steps = (new(4), new(5), maker, step("apply", 9, INT, (8, 0)))
        self.check(main_of(steps, 9), [("new", 0), ("new", 1), ("cell", 0, 2), ("touch", 0)],
                   result=(("touch",), 0, (), 1), left=2)

    def test_end_in_a_closure(self):
        """An end step of the closure's own region removes the handle of that frame and ends nothing."""
        inner = block((end(4), pair(3, 4, 2, 2)), 2, (2,))
        maker = step("fn", 8, ("fn", (INT, INT), 4), region=4, blocks=(inner,))
        steps = (new(4), maker, step("apply", 9, INT, (8, 0)))
        self.check(main_of(steps, 9), [("new", 0), ("cell", 0, 2), ("touch", 0)], result=(("touch",), 0, (), 1), left=2)

    def test_recursion_has_instances_of_its_own(self):
        text = ("(fun down ((n int)) int (let t (tuple n n) (if (less n 1) (get 0 t) (add (down (sub n 1)) (get 0 t)))))"
                " (fun main ((n int)) int (down n))")
        found = regions.run(place.find(flattened(text)), (2,))
        self.assertEqual([event[:2] for event in found[3]], [
            ("new", 0), ("cell", 0), ("new", 1), ("cell", 1), ("new", 2), ("cell", 2), ("touch", 2), ("end", 2),
            ("touch", 1), ("end", 1), ("touch", 0), ("end", 0)])
        self.assertEqual(found[:3], ((None, 3, (), 3), 6, 0))


class ExceptionsTest(MeterTest):
    def handle(self, body, *arms, keep=(), out=50):
        return step("handle", out, INT, (), (0,), use=keep, blocks=(body, *arms))

    RAISE = step("raise", 20, INT, (0,), 0)

    def test_unhandled(self):
        """The instances of the frames end, the innermost frame's first, in ascending order."""
        callee = function((new(1), pair(1, 1, 0, 0), new(0), self.RAISE), 0, kinds=(INT,))
        steps = (new(7), new(3), pair(1, 3), call(2, (0,), 0))
        self.check(program(callee, function(steps, 2, name="main", kinds=(INT,))), [
            ("new", 0), ("new", 1), ("cell", 1, 2), ("new", 2), ("cell", 2, 2), ("new", 3), ("end", 2), ("end", 3),
            ("end", 0), ("end", 1)], result=(("raised", "Div", 7), 0, (), 1))

    def test_kept(self):
        body = block((new(2), pair(1, 2), self.RAISE, end(2)), 20)
        arms = (block((), 30, (30,)), block((pair(32, 1),), 31, (31,)))
        steps = (new(0), new(1), self.handle(body, *arms, keep=(1,)), end(1))
        self.check(main_of(steps, 50), [
            ("new", 0), ("new", 1), ("new", 2), ("cell", 2, 2), ("end", 0), ("end", 2), ("cell", 1, 2), ("end", 1)],
            result=7)

    def test_handles_of_what_ended_are_removed(self):
        arms = (block((), 30, (30,)), block((end(0), pair(32, 1)), 31, (31,)))
        steps = (new(0), new(1), self.handle(block((self.RAISE,), 20), *arms), end(1))
        self.check(main_of(steps, 50), [("new", 0), ("new", 1), ("end", 0), ("end", 1)], result=(("touch",), 0, (), 0))

    def test_not_owned_stays(self):
        """A handle that does not own stays at the frame, kept or not."""
        arms = (block((), 30, (30,)), block((pair(32, 0),), 31, (31,)))
        callee = function((self.handle(block((self.RAISE,), 20), *arms), end(0)), 50, kinds=(INT,), formals=1, touch=(0,))
        steps = (new(4), call(2, (0,), 0, (4, "keep")), end(4))
        self.check(program(callee, function(steps, 2, name="main", kinds=(INT,))), [("new", 0), ("cell", 0, 2), ("end", 0)],
                   result=(None, 7, (), 1))

    def test_handed_over(self):
        """What a callee took over ends with its frame."""
        callee = function((new(5), self.RAISE, end(0)), 0, kinds=(INT,), formals=1, touch=(0,))
        arms = (block((), 30, (30,)), block((), 31, (31,)))
        body = block((new(4), new(3), call(2, (0,), 0, (4, "last"))), 2)
        value = program(callee, function((self.handle(body, *arms),), 50, name="main", kinds=(INT,)))
        self.check(value, [("new", 0), ("new", 1), ("new", 2), ("end", 0), ("end", 2), ("end", 1)], result=(None, 7, (), 1))

    def test_through_closures(self):
        inner = block((new(6), self.RAISE), 20, (2,))
        maker = step("fn", 8, ("fn", (INT, INT), 4), region=4, blocks=(replace(inner, (1, 1, 3), (2,)),))
        arms = (block((), 30, (30,)), block((step("apply", 33, INT, (8, 0)),), 33, (31,)))
        steps = (new(4), maker, self.handle(block((step("apply", 9, INT, (8, 0)),), 9), *arms, keep=(4,)))
        self.check(main_of(steps, 50), [
            ("new", 0), ("cell", 0, 2), ("touch", 0), ("new", 1), ("end", 1), ("touch", 0), ("new", 2), ("end", 2),
            ("end", 0)], result=(("raised", "Div", 7), 0, (), 2))

    def test_other_exceptions_pass(self):
        arms = (block((), 30, (30,)), block((), 31, (31,)))
        other = replace(self.RAISE, (4,), 2)
        inner = self.handle(block((new(1), other), 20), *arms)
        outer = step("handle", 60, INT, (), (2,), use=(0,), blocks=(block((inner,), 50), block((), 61, (61,)),
                                                                  block((), 62, (62,))))
        self.check(main_of((new(0), outer, end(0)), 60), [("new", 0), ("new", 1), ("end", 1), ("end", 0)], result=7)

    def test_no_exception(self):
        arms = (block((pair(32, 0),), 30, (30,)), block((), 31, (31,)))
        self.check(main_of((new(0), self.handle(block((), 0), *arms, keep=(0,)), end(0)), 50),
                   [("new", 0), ("cell", 0, 2), ("end", 0)], result=7)

    def test_fuel(self):
        """Nothing ends when the fuel does."""
        callee = function((new(1), pair(1, 1, 0, 0), call(2, (0,), 0)), 2, kinds=(INT,))
        arms = (block((), 30, (30,)), block((), 31, (31,)))
        steps = (new(0), self.handle(block((call(2, (0,), 0),), 2), *arms, keep=(0,)))
        value = program(callee, function(steps, 50, name="main", kinds=(INT,)))
        for fuel in range(4):
            events = [event for at in range(fuel) for event in (("new", 1 + at), ("cell", 1 + at, 2))]
            self.check(value, [("new", 0), *events], fuel=fuel, result=(("fuel",), 0, (), fuel), left=2 * fuel)

    def test_fuel_in_arguments_and_arrays(self):
        array = step("array", 2, ("array", (INT,), 0), (0, 0), region=0)
        steps = (new(0), pair(1, 0), array, end(0))
        self.check(main_of(steps, 0), [("new", 0), ("cell", 0, 2)], fuel=6, result=(("fuel",), 0, (), 6), left=2)
        self.check(main_of(steps, 0), [("new", 0), ("cell", 0, 2), ("cell", 0, 8), ("end", 0)], fuel=7,
                   result=(None, 7, (), 7))


class ReferenceTest(unittest.TestCase):
    """Random region programs, most of them not safe, against another check and another run."""

    def test_random_programs(self):
        reasons = set()
        for seed in range(40):
            randomness = random.Random(seed)
            try:
                value = flat.flatten(with_kinds(Maker(seed).tree()))
            except KindError:
                continue
            for base in (place.find(value), place.coarse(value)):
                for many in (0, 1, 1, 2, 3):
                    unsafe = base
                    for _ in range(many):
                        unsafe = changed(unsafe, randomness)
                    reasons.add(self.compare(unsafe))
        self.assertLess({None, "scope", "kind", "reach", "ended", "kept", "left", "join"}, reasons | {"more"})

    def compare(self, value):
        fault = region_fault(value)
        if fault is not None and fault[1] in ("shape", "flat"):
            return fault[1]
        self.assertEqual(fault, region_reference.check(value))
        arguments = (3, 5, -2)[:len(value[2][-1][3])]
        run_fault = region_fault(value, lambda it: regions.run(it, arguments))
        self.assertEqual(run_fault, region_reference.check(value, only=("scope", "kind")))
        if run_fault is None:
            for fuel in (0, 3, 20):
                found = regions.run(value, arguments, fuel=fuel)
                self.assertEqual(found, region_reference.run(value, arguments, fuel))
                if fault is None:
                    self.assertEqual(found[0], flat.run(regions.erase(value), arguments, fuel=fuel))
        return fault and fault[1]


if __name__ == "__main__":
    unittest.main()
