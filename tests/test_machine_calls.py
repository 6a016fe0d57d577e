"""Runs of code: calls, closures, handles, exceptions, and all ways to be stuck or to lack fuel."""

import random
import unittest

from escheat import machine
from tests import machine_reference
from tests.codes import Maker, body, code, main_of
from tests.test_machine import HUGE, RunTest


class CallTest(RunTest):
    ADD = body(("add", 5, 2, 1), ("return", 5), inputs=(1, 2))

    def test_call(self):
        value = code(self.ADD, body(("set", 1, 30), ("call", 3, 0, (0, 1), ()), ("print", 5), ("return", 3)))
        self.check(value, (), answer=37, ticks=1, outs=(0,))

    def test_frames_have_registers_of_their_own(self):
        callee = body(("print", 0), ("print", 1), ("set", 0, 9), ("return", 0), inputs=(1,))
        value = code(callee, body(("set", 2, 5), ("call", 3, 0, (2,), ()), ("print", 0), ("print", 3), ("return", 2)))
        self.check(value, (), answer=5, ticks=1, outs=(0, 5, 7, 9))

    def test_the_tick(self):
        value = code(self.ADD, body(("print", 0), ("call", 3, 0, (0, 0), ()), ("call", 3, 0, (3, 0), ()), ("return", 3)))
        self.check(value, (), fuel=2, answer=21, outs=(7,), ticks=2)
        for fuel in (1, 0, -1, -HUGE):
            self.check(value, (), fuel=fuel, fault=("fuel",), outs=(7,), ticks=max(fuel, 0))

    def test_greatest_fuel(self):
        endless = main_of(("print", 0), ("call", 0, 0, (0,), ()), ("return", 0))
        for fuel in (200, 201, HUGE):
            self.check(endless, (), fuel=fuel, fault=("fuel",), outs=(7,) * 201, ticks=200)
        self.assertEqual(machine.run(endless, (7,)), machine.run(endless, (7,), fuel=200))

    def test_handles(self):
        """A callee has the handles of its triples alone, under their names."""
        callee = body(("cell", 1, 8, (), (0, 0)), ("return", 1))
        rows = [("begin", 3), ("call", 2, 0, (0,), ((8, 3, "keep"),)), ("end", 3)]
        self.check(code(callee, body(*rows, ("return", 2))), [("new", 0), ("cell", 0, 2), ("end", 0)], answer=64, ticks=1)
        for name in (3, 0, 1):
            wrong = code(body(("cell", 1, name, (), (0, 0)), ("return", 1)), body(*rows, ("return", 2)))
            self.check(wrong, [("new", 0)], fault=("stuck",), ticks=1)

    def test_keep(self):
        """The callee does not own what is kept: its end removes the handle only."""
        callee = body(("end", 8), ("return", 0))
        again = body(("end", 8), ("end", 8), ("return", 0))
        rows = [("begin", 3), ("call", 2, 0, (0,), ((8, 3, "keep"),)), ("cell", 1, 3, (), (0,)), ("end", 3), ("return", 2)]
        self.check(code(callee, body(*rows)), [("new", 0), ("cell", 0, 1), ("end", 0)], answer=7, ticks=1)
        self.check(code(again, body(*rows)), [("new", 0)], fault=("stuck",), ticks=1)

    def test_last(self):
        callee = body(("end", 8), ("return", 0))
        rows = [("begin", 3), ("cell", 1, 3, (), (0,)), ("call", 2, 0, (0,), ((8, 3, "last"),))]
        events = [("new", 0), ("cell", 0, 1), ("end", 0)]
        self.check(code(callee, body(*rows, ("return", 2))), events, answer=7, ticks=1)
        self.check(code(callee, body(*rows, ("end", 3), ("return", 2))), events, fault=("stuck",), ticks=1)
        self.check(code(callee, body(*rows, ("cell", 1, 3, (), (0,)), ("return", 2))), events, fault=("stuck",), ticks=1)

    def test_last_of_what_is_not_owned(self):
        """The callee does not own then, and the handle is removed all the same."""
        inner = body(("cell", 1, 5, (), (0,)), ("end", 5), ("return", 0))
        rows = [("begin", 3), ("call", 2, 1, (0,), ((8, 3, "keep"),)), ("cell", 1, 3, (), (0,)), ("end", 3), ("return", 2)]
        call = ("call", 2, 0, (0,), ((5, 8, "last"),))
        events = [("new", 0), ("cell", 0, 1)]
        self.check(code(inner, body(call, ("return", 2)), body(*rows)), [*events, ("cell", 0, 1), ("end", 0)], answer=7,
                   ticks=2)
        self.check(code(inner, body(call, ("end", 8), ("return", 2)), body(*rows)), events, fault=("stuck",), ticks=2)

    def test_one_handle_in_two_triples(self):
        """It is removed after all triples, so both see it. If it owned, both own."""
        callee = body(("cell", 1, 8, (), (0,)), ("cell", 1, 9, (), (0,)), ("end", 9), ("return", 0))
        for modes, end in ((("last", "keep"), []), (("keep", "last"), [("end", 0)])):
            use = ((8, 3, modes[0]), (9, 3, modes[1]))
            rows = [("begin", 3), ("call", 2, 0, (0,), use), ("return", 2)]
            self.check(code(callee, body(*rows)), [("new", 0), ("cell", 0, 1), ("cell", 0, 1), *end], answer=7, ticks=1)
        both = ("call", 2, 0, (0,), ((8, 3, "last"), (9, 3, "last")))
        twice = body(("end", 8), ("end", 9), ("return", 0))
        self.check(code(twice, body(("begin", 3), both, ("return", 2))), [("new", 0), ("end", 0)], fault=("stuck",), ticks=1)

    def test_a_name_that_stands_twice(self):
        """The later triple is the one that counts."""
        callee = body(("cell", 1, 8, (), (0,)), ("return", 1))
        use = ((8, 3, "keep"), (8, 4, "keep"))
        rows = [("begin", 3), ("begin", 4), ("call", 2, 0, (0,), use), ("return", 2)]
        self.check(code(callee, body(*rows)), [("new", 0), ("new", 1), ("cell", 1, 1)], answer=64, ticks=1)

    def test_a_handle_on_an_instance_that_has_ended(self):
        """It may be passed on; only a cell in it is without meaning."""
        first = body(("end", 8), ("call", 1, 1, (0,), ((5, 9, "keep"),)), ("return", 1))
        second = body(("print", 0), ("return", 0))
        use = ("call", 2, 0, (0,), ((8, 3, "last"), (9, 3, "keep")))
        self.check(code(first, second, body(("begin", 3), use, ("return", 2))), [("new", 0), ("end", 0)], answer=7,
                   outs=(7,), ticks=2)
        wrong = body(("cell", 1, 5, (), (0,)), ("return", 0))
        self.check(code(first, wrong, body(("begin", 3), use, ("return", 2))), [("new", 0), ("end", 0)], fault=("stuck",),
                   ticks=2)

    def test_nothing_ends_at_a_return(self):
        callee = body(("begin", 5), ("cell", 1, 5, (), (0, 0)), ("return", 1))
        value = code(callee, body(("call", 2, 0, (0,), ()), ("load", 3, 2, 0), ("return", 3)))
        self.check(value, [("new", 0), ("cell", 0, 2), ("touch", 0)], answer=7, ticks=1, left=2)

    def test_deep(self):
        deep = body(("set", 2, 1), ("branch", 0, 5), ("sub", 1, 0, 2), ("call", 1, 0, (1,), ()), ("add", 0, 0, 1),
                    ("return", 0))
        self.check(code(deep), (), arguments=(200,), answer=20100, ticks=200)
        self.check(code(deep), (), arguments=(201,), fault=("fuel",), ticks=200)


class ClosureTest(RunTest):
    INNER = body(("add", 4, 1, 2), ("cell", 5, 6, (), (4, 4)), ("sub", 4, 4, 3), ("return", 4), inputs=(1,), captured=(2, 3),
                 region=6)

    def test_closure_and_apply(self):
        rows = [("begin", 3), ("set", 1, 100), ("set", 2, 5), ("closure", 4, 3, 0, (1, 2)), ("apply", 5, 4, 0), ("end", 3)]
        events = [("new", 0), ("cell", 0, 4), ("touch", 0), ("cell", 0, 2), ("end", 0)]
        self.check(code(self.INNER, body(*rows, ("return", 5))), events, answer=102, ticks=1)

    def test_the_words(self):
        """The index of the body, the instance, and what is captured."""
        rows = [("begin", 1), ("begin", 3), ("set", 1, 100), ("closure", 4, 3, 0, (1, 4))]
        for offset, wanted in ((0, 0), (1, 1), (2, 100), (3, 0), (4, 0)):
            found = self.run_code(code(self.INNER, body(*rows, ("load", 5, 4, offset), ("return", 5))))
            self.assertEqual(found[0][1], wanted)
        empty = body(("return", 0), region=2)
        found = self.run_code(code(empty, empty, body(("begin", 3), ("closure", 4, 3, 1, ()), ("load", 5, 4, 0), ("return", 5))))
        self.assertEqual((found[0][1], found[1]), (1, 2))

    def test_inputs_before_captured(self):
        inner = body(("print", 1), ("return", 2), inputs=(1,), captured=(1, 2, 2), region=0)
        rows = [("begin", 3), ("set", 1, 8), ("set", 2, 9), ("closure", 4, 3, 0, (1, 1, 2)), ("apply", 5, 4, 0), ("return", 5)]
        self.check(code(inner, body(*rows)), [("new", 0), ("cell", 0, 5), ("touch", 0)], outs=(8,), answer=9, ticks=1)

    def test_the_handle_of_a_call(self):
        """One handle, for the body's region, which does not own."""
        for name, fault in ((6, None), (3, ("stuck",)), (0, ("stuck",))):
            inner = body(("end", name), ("return", 0), region=6)
            rows = [("begin", 3), ("closure", 4, 3, 0, ()), ("apply", 5, 4, 0), ("end", 3), ("return", 0)]
            events = [("new", 0), ("cell", 0, 2), ("touch", 0)]
            self.check(code(inner, body(*rows)), [*events, ("end", 0)] if fault is None else events, fault=fault, ticks=1)

    def test_the_tick_comes_first(self):
        inner = body(("return", 0), region=6)
        rows = [("begin", 3), ("closure", 4, 3, 0, ()), ("apply", 5, 4, 0), ("return", 5)]
        self.check(code(inner, body(*rows)), [("new", 0), ("cell", 0, 2)], fuel=0, fault=("fuel",))
        self.check(code(inner, body(*rows)), [("new", 0), ("cell", 0, 2), ("touch", 0)], fuel=1, answer=7, ticks=1)

    def test_the_closure_has_ended(self):
        """Its words are 0 then: the body with the index 0 is called, with instance 0."""
        inner = body(("cell", 5, 6, (), (2,)), ("return", 0), captured=(2,), region=6)
        rows = [("begin", 3), ("closure", 4, 3, 0, (0,)), ("end", 3), ("apply", 5, 4, 0), ("return", 5)]
        events = [("new", 0), ("cell", 0, 3), ("end", 0), ("touch", -1)]
        self.check(code(inner, body(*rows)), events, fault=("stuck",), ticks=1)
        self.check(code(body(("return", 0)), inner, body(("begin", 3), ("closure", 4, 3, 1, (0,)), *rows[2:])), events,
                   fault=("stuck",), ticks=1)

    def test_any_cell_is_a_closure(self):
        inner = body(("cell", 5, 6, (), (2, 3)), ("return", 2), captured=(2, 3), region=6)
        rows = [("begin", 3), ("set", 1, 40), ("cell", 4, 3, (), (6, 6, 1)), ("apply", 5, 4, 0), ("return", 5)]
        self.check(code(inner, body(*rows)), [("new", 0), ("cell", 0, 3), ("touch", 0), ("cell", 0, 2)], answer=40, ticks=1)
        for instance in (1, -1, HUGE, -HUGE):
            other = [*rows[:2], ("set", 7, instance), ("cell", 4, 3, (), (6, 7, 1)), *rows[3:]]
            self.check(code(inner, body(*other)), [("new", 0), ("cell", 0, 3), ("touch", 0)], fault=("stuck",), ticks=1)
        # Without a cell it does not matter that there is no such instance.
        quiet = body(("end", 6), ("return", 2), captured=(2, 3), region=6)
        other = [*rows[:2], ("set", 7, -HUGE), ("cell", 4, 3, (), (6, 7, 1)), *rows[3:]]
        self.check(code(quiet, body(*other)), [("new", 0), ("cell", 0, 3), ("touch", 0)], answer=40, ticks=1)

    def test_what_cannot_be_applied(self):
        two = body(("return", 0), inputs=(0, 1), region=6)
        none = body(("return", 0), inputs=(), region=6)
        function = body(("return", 0))
        for index in (0, 1, 2, 4, 5, -1, -3, HUGE, -HUGE):
            rows = body(("begin", 3), ("set", 1, index), ("cell", 4, 3, (), (1, 6)), ("apply", 5, 4, 0), ("return", 5))
            self.check(code(two, none, function, rows), [("new", 0), ("cell", 0, 2), ("touch", 0)], fault=("stuck",), ticks=1)

    def test_a_main_body_with_a_region(self):
        value = code(body(("cell", 1, 4, (), (0,)), ("return", 0), region=4))
        self.check(value, (), fault=("stuck",))
        value = code(body(("return", 0), region=4))
        self.check(value, (), answer=7)


class RaiseTest(RunTest):
    def test_not_handled(self):
        for number, name in enumerate(("Div", "Index", "Size", "lost", "lost")):
            value = code(body(("print", 0), ("raise", number, 0)), exceptions=("lost", "lost"))
            self.check(value, (), fault=("raised", name, 7), outs=(7,))
        self.check(main_of(("set", 1, HUGE), ("raise", 0, 1)), (), fault=("raised", "Div", HUGE))

    def test_all_that_is_owned_ends(self):
        """Frame by frame, the innermost first, and in a frame in ascending order."""
        inner = body(("begin", 9), ("begin", 1), ("cell", 2, 9, (), (0,)), ("raise", 0, 0))
        middle = body(("begin", 4), ("call", 1, 0, (0,), ((7, 4, "keep"),)), ("return", 1))
        outer = body(("begin", 8), ("begin", 2), ("end", 8), ("begin", 8), ("call", 1, 1, (0,), ((7, 2, "last"),)),
                     ("return", 1))
        events = [("new", 0), ("new", 1), ("end", 0), ("new", 2), ("new", 3), ("new", 4), ("new", 5), ("cell", 4, 1),
                  ("end", 4), ("end", 5), ("end", 1), ("end", 3), ("end", 2)]
        self.check(code(inner, middle, outer), events, fault=("raised", "Div", 7), ticks=2)

    def test_handled_in_the_frame(self):
        rows = (("begin", 0), ("try", (), ((0, 3, 4),)), ("raise", 0, 0), ("return", 0), ("print", 3), ("return", 1))
        self.check(main_of(*rows), [("new", 0), ("end", 0)], outs=(7,), answer=0)

    def test_every_raise_is_handled(self):
        for row, number, payload in ((("div", 1, 0, 5), 0, 0), (("rem", 1, 0, 5), 0, 0), (("item", 1, 5, 0), 1, 7),
                                     (("put", 5, 0, 5), 1, 7), (("raise", 2, 0), 2, 7)):
            rows = (("try", (), ((number, 3, 3),)), row, ("return", 0), ("return", 3))
            touch = [("touch", -1)] if number == 1 else []
            self.check(main_of(*rows), touch, answer=payload)
        rows = (("begin", 4), ("set", 5, 13), ("try", (4,), ((2, 3, 5),)), ("array", 1, 4, 5, 0), ("return", 0), ("return", 3))
        self.check(main_of(*rows), [("new", 0)], answer=13)

    def test_the_arm_for_the_exception(self):
        rows = (("try", (), ((3, 3, 3), (0, 4, 5), (1, 5, 7))), ("raise", 0, 0), ("return", 0), ("set", 1, 1), ("return", 1),
                ("set", 1, 2), ("print", 4), ("print", 3), ("return", 1))
        self.check(code(body(*rows), exceptions=("lost",)), (), outs=(7, 0), answer=2)

    def test_the_newest_handler(self):
        """The newest one with an arm; it is closed then, and so are all newer ones."""
        rows = (("try", (), ((0, 3, 7),)), ("try", (), ((0, 3, 8),)), ("try", (), ((1, 3, 9),)), ("try", (), ()),
                ("set", 4, 5), ("raise", 0, 4), ("return", 0), ("return", 0), ("raise", 0, 0), ("return", 0))
        self.check(main_of(*rows), (), answer=7)
        opened = (("try", (), ((0, 3, 7),)), ("try", (), ((0, 3, 6),)), ("try", (), ((1, 3, 7),)), ("try", (), ()),
                  ("raise", 0, 0), ("return", 0))
        self.check(main_of(*opened, ("untry",), ("return", 0)), (), answer=7)
        self.check(main_of(*opened, ("untry",), ("untry",), ("return", 0)), (), fault=("stuck",))
        self.check(main_of(*opened, ("untry",), ("raise", 0, 0)), (), fault=("raised", "Div", 7))

    def test_handlers_that_stay_open(self):
        rows = (("try", (), ((0, 3, 5),)), ("try", (), ((1, 3, 4),)), ("try", (), ()), ("raise", 1, 0), ("raise", 0, 0),
                ("print", 3), ("return", 3))
        self.check(main_of(*rows), (), outs=(7,), answer=7)

    def test_untry(self):
        rows = (("try", (), ((0, 3, 6),)), ("try", (), ((0, 3, 5),)), ("untry",), ("raise", 0, 0), ("return", 1),
                ("return", 2), ("return", 3))
        self.check(main_of(*rows), (), answer=7)
        self.check(main_of(*rows[:3], ("untry",), ("raise", 0, 0), ("return", 0), ("return", 0)), (),
                   fault=("raised", "Div", 7))
        self.check(main_of(*rows[:3], ("untry",), ("untry",), ("return", 0), ("return", 0)), (), fault=("stuck",))
        self.check(main_of(("untry",), ("return", 0)), (), fault=("stuck",))

    def test_handlers_belong_to_frames(self):
        """A callee cannot close its caller's handler, and what it leaves open is gone when it returns."""
        callee = body(("untry",), ("return", 0))
        value = code(callee, body(("try", (), ()), ("call", 1, 0, (0,), ()), ("return", 0)))
        self.check(value, (), fault=("stuck",), ticks=1)
        opening = body(("try", (), ((0, 3, 1),)), ("return", 0))
        value = code(opening, body(("call", 1, 0, (0,), ()), ("raise", 0, 0)))
        self.check(value, (), fault=("raised", "Div", 7), ticks=1)

    def test_handled_across_frames(self):
        """The innermost frame with an arm handles it; the frames inside end, and what they own."""
        raising = body(("begin", 1), ("cell", 5, 1, (), (0,)), ("try", (), ((1, 2, 4),)), ("raise", 0, 0), ("return", 0))
        middle = body(("begin", 1), ("call", 1, 0, (0,), ((4, 1, "last"),)), ("return", 1))
        outer = body(("begin", 2), ("try", (2,), ((0, 6, 3),)), ("call", 1, 1, (0,), ()), ("print", 6),
                     ("cell", 1, 2, (), (0,)), ("end", 2), ("return", 6))
        events = [("new", 0), ("new", 1), ("new", 2), ("cell", 2, 1), ("end", 2), ("cell", 0, 1), ("end", 0)]
        middle_only = [*events[:4], ("end", 1), ("end", 2), *events[5:]]
        # Instance 1 was handed to the raising frame, so both end there, in ascending order.
        self.check(code(raising, middle, outer), middle_only, outs=(7,), answer=7, ticks=2)

    def test_through_a_closure(self):
        inner = body(("begin", 1), ("raise", 2, 0), region=6)
        rows = [("begin", 3), ("closure", 4, 3, 0, ()), ("try", (3,), ((2, 5, 5),)), ("apply", 5, 4, 0), ("return", 0),
                ("end", 3), ("return", 5)]
        self.check(code(inner, body(*rows)), [("new", 0), ("cell", 0, 2), ("touch", 0), ("new", 1), ("end", 1), ("end", 0)],
                   answer=7, ticks=1)

    def test_kept(self):
        rows = [("begin", 5), ("begin", 3), ("begin", 4), ("try", (3, 9), ((0, 1, 5),)), ("raise", 0, 0)]
        events = [("new", 0), ("new", 1), ("new", 2), ("end", 0), ("end", 2)]
        self.check(main_of(*rows, ("cell", 1, 3, (), (0,)), ("end", 3), ("return", 0)), [*events, ("cell", 1, 1), ("end", 1)],
                   answer=7)
        for name in (5, 4, 9):
            self.check(main_of(*rows, ("end", name), ("return", 0)), events, fault=("stuck",))

    def test_what_is_not_owned_is_not_ended(self):
        callee = body(("try", (), ((0, 1, 2),)), ("raise", 0, 0), ("cell", 1, 8, (), (0,)), ("return", 0))
        rows = [("begin", 3), ("call", 2, 0, (0,), ((8, 3, "keep"),)), ("return", 2)]
        self.check(code(callee, body(*rows)), [("new", 0), ("cell", 0, 1)], answer=7, ticks=1, left=1)

    def test_two_owning_handles(self):
        """Of one instance: it ends once, unless both names are kept, and both handles are removed."""
        use = ("call", 2, 0, (0,), ((8, 3, "last"), (9, 3, "last"), (7, 3, "keep")))
        for kept, ends in (((), True), ((8,), True), ((9,), True), ((8, 9), False)):
            for name in (7, 8, 9):
                callee = body(("try", kept, ((0, 1, 2),)), ("raise", 0, 0), ("end", name), ("return", 0))
                owned = name != 7
                wanted = [("new", 0)] + ([("end", 0)] if ends or owned else [])
                self.check(code(callee, body(("begin", 3), use, ("return", 2))), wanted, ticks=1,
                           fault=("stuck",) if ends and owned else None)

    def test_two_owning_handles_at_the_end(self):
        use = ("call", 2, 0, (0,), ((8, 3, "last"), (9, 3, "last")))
        self.check(code(body(("raise", 0, 0)), body(("begin", 3), use, ("return", 2))), [("new", 0), ("end", 0)], ticks=1,
                   fault=("raised", "Div", 7))

    def test_stuck_while_frames_end(self):
        """An instance that has ended is to end once more, in a frame further out."""
        inner = body(("raise", 0, 0))
        middle = body(("begin", 1), ("call", 2, 0, (0,), ((8, 8, "last"),)), ("return", 0))
        use = ("call", 2, 1, (0,), ((8, 3, "last"), (9, 3, "last")))
        outer = body(("begin", 3), ("try", (), ((0, 1, 3),)), use, ("return", 2))
        self.check(code(inner, middle, outer), [("new", 0), ("new", 1), ("end", 0)], fault=("stuck",), ticks=2)

    def test_stuck_in_the_middle_of_a_frame(self):
        """What comes before in ascending order has ended."""
        callee = body(("end", 9), ("raise", 0, 0))
        rows = [("begin", 3), ("begin", 4), ("begin", 5),
                ("call", 2, 0, (0,), ((7, 3, "last"), (8, 4, "last"), (9, 4, "last"), (6, 5, "last"))), ("return", 2)]
        self.check(code(callee, body(*rows)), [("new", 0), ("new", 1), ("new", 2), ("end", 1), ("end", 0)], fault=("stuck",),
                   ticks=1)

    def test_fuel_is_not_handled(self):
        rows = [("begin", 3), ("try", (), ((0, 1, 3), (1, 1, 3), (2, 1, 3))), ("call", 1, 0, (0,), ()), ("return", 0)]
        value = code(body(*rows))
        self.check(value, [("new", at) for at in range(4)], fuel=3, fault=("fuel",), ticks=3)

    def test_the_payload_may_replace_what_was_there(self):
        rows = (("set", 3, 50), ("try", (), ((0, 3, 3),)), ("raise", 0, 0), ("return", 3))
        self.check(main_of(*rows), (), answer=7)


class StuckTest(RunTest):
    """Each way to be stuck: outputs, ticks and events stay, and no instance ends."""

    BEFORE = (("begin", 3), ("cell", 1, 3, (), (0, 0)), ("print", 0), ("set", 2, 1), ("array", 4, 3, 2, 0))
    EVENTS = [("new", 0), ("cell", 0, 2), ("cell", 0, 2)]

    def stuck(self, *rows, others=(), events=(), ticks=1, **more):
        value = code(*others, body(*self.BEFORE, *rows, ("return", 0)))
        self.check(value, [*self.EVENTS, *events], fault=("stuck",), outs=(7,), ticks=ticks, **more)

    def test_no_handle(self):
        inner = body(("return", 0), region=0)
        self.stuck(("cell", 1, 4, (), (0,)))
        self.stuck(("array", 1, 4, 2, 0), ticks=2)
        self.stuck(("closure", 1, 4, 0, ()), others=(inner,))
        self.stuck(("end", 4))
        self.stuck(("call", 1, 0, (0,), ((1, 4, "keep"),)), others=(body(("return", 0)),), ticks=2)
        self.stuck(("call", 1, 0, (0,), ((1, 3, "last"), (1, 4, "last"))), others=(body(("return", 0)),), ticks=2)

    def test_no_handle_but_something_before(self):
        size = (*self.BEFORE, ("set", 2, 13), ("array", 1, 4, 2, 0), ("return", 0))
        self.check(main_of(*size), [*self.EVENTS, ("end", 0)], fault=("raised", "Size", 13), outs=(7,), ticks=1)
        fuel = (*self.BEFORE, ("set", 2, 5), ("array", 1, 4, 2, 0), ("return", 0))
        self.check(main_of(*fuel), self.EVENTS, fault=("fuel",), outs=(7,), ticks=5, fuel=5)
        self.check(main_of(*fuel), self.EVENTS, fault=("stuck",), outs=(7,), ticks=6, fuel=6)

    def test_an_instance_that_has_ended(self):
        inner = body(("return", 0), region=0)
        end = ("end", 8)
        for row, ticks in ((("cell", 1, 9, (), (0,)), 2), (("array", 1, 9, 2, 0), 2), (("closure", 1, 9, 0, ()), 2),
                           (("end", 9), 2)):
            callee = body(end, row, ("return", 0))
            mode = "last"
            self.stuck(("call", 1, 1, (0,), ((8, 3, "last"), (9, 3, mode))), others=(inner, callee), ticks=ticks,
                       events=[("end", 0)])

    def test_untry(self):
        self.stuck(("untry",))
        self.stuck(("try", (), ()), ("untry",), ("untry",))

    def test_switch_and_apply(self):
        self.stuck(("switch", 0, ((6, ()),)))
        self.stuck(("set", 6, 9), ("cell", 5, 3, (), (6,)), ("switch", 5, ((8, ()),)), events=[("cell", 0, 1), ("touch", 0)])
        self.stuck(("apply", 5, 1, 0), ticks=2, events=[("touch", 0)])

    def test_handlers_do_not_see_it(self):
        arms = tuple((number, 1, 7) for number in range(3))
        self.stuck(("try", (), arms), ("end", 4))


class RandomTest(unittest.TestCase):
    """Random code, most of which is stuck some time, against another way to run it."""

    def test_against_the_other_run(self):
        faults = {}
        for seed in range(1200):
            value = Maker(random.Random(seed)).code()
            self.assertIsNone(machine.check_code(value))
            many = len(value[1][value[2]][0])
            for arguments in ((3, 70), (0, 64), (-1, 2)):
                for fuel in (200, 7, 2):
                    found = machine.run(value, arguments[:many], fuel=fuel)
                    self.assertEqual(found, machine_reference.run(value, arguments[:many], fuel))
                    fault = found[0][0] and found[0][0][0]
                    faults[fault] = faults.get(fault, 0) + 1
        self.assertEqual(set(faults), {None, "stuck", "fuel", "raised"})
        self.assertGreater(min(faults.values()), 300)

    def test_more_fuel(self):
        """A run that does not end for lack of fuel is the same with more; with less its outputs are a part."""
        for seed in range(300):
            value = Maker(random.Random(seed)).code()
            many = len(value[1][value[2]][0])
            result, _, _, events = full = machine.run(value, (5, 66)[:many])
            if result[0] == ("fuel",):
                continue
            for fuel in range(result[3]):
                less = machine.run(value, (5, 66)[:many], fuel=fuel)
                self.assertEqual((less[0][0], less[0][3]), (("fuel",), fuel))
                self.assertEqual(less[0][2], result[2][:len(less[0][2])])
                self.assertEqual(less[3], events[:len(less[3])])
            self.assertEqual(machine.run(value, (5, 66)[:many], fuel=result[3]), full)


if __name__ == "__main__":
    unittest.main()
