"""Which values are well-formed code: each condition by itself, and any value in any place."""

import unittest

from escheat import machine
from escheat.errors import CodeError
from tests.codes import body, code
from tests.helpers import FIRST, JUNK, deep, places, replace

HUGE = 10 ** 30


def is_right(value):
    try:
        found = machine.check_code(value)
    except CodeError:
        return False
    assert found is None
    return True


class CodeTest(unittest.TestCase):
    def accept(self, value):
        self.assertIsNone(machine.check_code(value))
        self.assertEqual(len(machine.run(value, (1,) * len(value[1][value[2]][0]))), 4)

    def refuse(self, value):
        with self.assertRaises(CodeError):
            machine.check_code(value)
        with self.assertRaises(CodeError):
            machine.run(value, ())
        with self.assertRaises(CodeError):
            machine.run(value, (1,), fuel=0)

    # Something of everything: 0 is a function, 1 and 2 are closures' bodies, 3 is the main body.
    FUNCTION = ((0, 1), (), -1, 4, (("return", 3),))
    CLOSURE = ((0,), (2, 2), 5, 3, (("return", 2),))
    EMPTY = ((0,), (), 0, 1, (("raise", 3, 0),))
    ROWS = (
        ("set", 1, -5), ("copy", 2, 1), ("begin", 4), ("cell", 3, 4, (63,), (0, 1)), ("cell", 3, 4, (), (0,)),
        ("closure", 4, 4, 1, (0, 3)), ("closure", 4, 4, 2, ()), ("array", 5, 4, 6, 0), ("load", 6, 3, 63),
        ("store", 3, 0, 0), ("try", (4, 2), ((1, 6, 13), (3, 6, 12))), ("item", 6, 5, 1), ("put", 5, 1, 0),
        ("untry",), ("switch", 6, ((15, (1, 2)), (16, ()))), ("branch", 0, 20), ("jump", 18), ("print", 0),
        ("call", 6, 0, (0, 0), ((0, 4, "keep"), (9, 4, "last"))), ("apply", 6, 4, 0), ("end", 4), ("raise", 2, 0),
        ("add", 1, 0, 0), ("sub", 1, 0, 0), ("mul", 1, 0, 0), ("div", 1, 0, 0), ("rem", 1, 0, 0), ("equal", 1, 0, 0),
        ("less", 1, 0, 0), ("return", 1),
    )
    MAIN = ((0,), (), -1, 7, ROWS)
    RIGHT = (FIRST + ("lost",), (FUNCTION, CLOSURE, EMPTY, MAIN), 3)

    def row(self, *instruction, at=0):
        """Code with an instruction in the place of the one at an index of the main body."""
        return replace(self.RIGHT, (1, 3, 4, at), instruction)


class WholeTest(CodeTest):
    def test_right(self):
        self.accept(self.RIGHT)
        self.accept(code(body(("return", 0))))

    def test_no_code(self):
        for value in (*JUNK, deep(200), ((),) * 3, ((),) * 99999, [FIRST, self.RIGHT[1], 3], self.RIGHT + (0,),
                      self.RIGHT[:2], (FIRST, (), 0)):
            self.refuse(value)

    def test_exceptions(self):
        for names in (FIRST, FIRST + ("Div",), FIRST + ("lost", "lost"), FIRST + ("",)):
            self.accept(replace(code(body(("return", 0))), (0,), names))
        for names in (("Div", "Index"), ("Index", "Div", "Size"), ("div", "Index", "Size"), FIRST + (3,), FIRST + (None,),
                      (), FIRST + (("lost",),), "Div", ("lost",) + FIRST):
            self.refuse(replace(code(body(("return", 0))), (0,), names))

    def test_main(self):
        two = code(body(("return", 0)), body(("return", 0)))
        for main in (0, 1):
            self.accept(replace(two, (2,), main))
        for main in (2, -1, -2, True, False, None, "0", (), HUGE):
            self.refuse(replace(two, (2,), main))

    def test_main_captures_nothing(self):
        self.refuse(code(body(("return", 0), captured=(1,))))
        self.refuse(code(body(("return", 0), captured=(1,), region=3)))
        self.accept(code(body(("return", 0), captured=(1,), region=3), body(("return", 0))))
        self.accept(code(body(("return", 0), captured=(1,)), body(("return", 0))))

    def test_bodies(self):
        right = body(("return", 0))
        for value in ((), right[:4], right + (0,), list(right), None, 0, "body", deep(200)):
            self.refuse(code(right, value))
            self.refuse(code(value, right))

    def test_registers_of_a_body(self):
        for registers in (1, 2, HUGE):
            self.accept(code(body(("return", 0), registers=registers)))
        for registers in (0, -1, -HUGE, True, False, None, "1", (1,)):
            self.refuse(code(body(("return", 0), registers=registers)))
            self.refuse(code(body(("return", 0), registers=registers, inputs=())))

    def test_inputs_and_captured(self):
        for regs in ((), (0,), (8,), (3, 3), tuple(range(9))):
            self.accept(code(body(("return", 0), inputs=regs, captured=regs), body(("return", 0))))
        for regs in ((9,), (-1,), (True,), (False,), (None,), ("0",), ((),), (0, 9), (HUGE,)):
            self.refuse(code(body(("return", 0), inputs=regs)))
            self.refuse(code(body(("return", 0), captured=regs), body(("return", 0))))
        for value in (None, 0, [0], "0", {0: 0}):
            self.refuse(replace(code(body(("return", 0))), (1, 0, 0), value))
            self.refuse(replace(code(body(("return", 0)), body(("return", 0))), (1, 0, 1), value))

    def test_region(self):
        for region in (-1, 0, 1, HUGE):
            self.accept(code(body(("return", 0), region=region), body(("return", 0))))
        for region in (-2, -HUGE, True, False, None, "0", ()):
            self.refuse(code(body(("return", 0), region=region), body(("return", 0))))

    def test_the_last_instruction(self):
        for last in (("return", 0), ("raise", 0, 0)):
            self.accept(code(body(("print", 0), last)))
        for last in (("print", 0), ("set", 0, 5), ("untry",), ("call", 0, 0, (0,), ())):
            self.refuse(code(body(last)))
            self.refuse(code(body(("return", 0), last)))
        self.refuse(code(body()))
        self.refuse(replace(code(body(("return", 0))), (1, 0, 4), [("return", 0)]))


class InstructionTest(CodeTest):
    def test_lengths_and_names(self):
        for index, row in enumerate(self.ROWS):
            for wrong in (row[1:], row + (0,), row[:-1], (), (row[0].upper(), *row[1:]), (None, *row[1:]),
                          ((row[0],), *row[1:]), list(row), row[0], None, 5):
                self.refuse(replace(self.RIGHT, (1, 3, 4, index), wrong))
        for op in ("nop", "", "new", "deref", "Set", "get", "not"):
            self.refuse(self.row(op, 0, 0))

    def test_registers(self):
        """Each register that is named exists."""
        positions = {
            "set": (1,), "copy": (1, 2), "cell": (1,), "closure": (1,), "array": (1, 3, 4), "load": (1, 2), "store": (1, 3),
            "item": (1, 2, 3), "put": (1, 2, 3), "switch": (1,), "branch": (1,), "call": (1,), "apply": (1, 2, 3),
            "return": (1,), "raise": (2,), "print": (1,), "add": (1, 2, 3), "sub": (1, 2, 3), "mul": (1, 2, 3),
            "div": (1, 2, 3), "rem": (1, 2, 3), "equal": (1, 2, 3), "less": (1, 2, 3),
        }
        for index, row in enumerate(self.ROWS):
            for position in positions.get(row[0], ()):
                for wrong in (7, -1, HUGE, True, False, None, "0", ()):
                    self.refuse(replace(self.RIGHT, (1, 3, 4, index, position), wrong))
                for right in (0, 6):
                    self.assertTrue(is_right(replace(self.RIGHT, (1, 3, 4, index, position), right)))

    def test_tuples_of_registers(self):
        rows = (("cell", 3, 4, (), (0, 1)), ("closure", 4, 4, 1, (0, 3)), ("call", 6, 0, (0, 0), ()))
        for row in rows:
            last = 3 if row[0] == "call" else 4
            self.assertTrue(is_right(self.row(*row)))
            for wrong in ((0, 7), (-1, 0), (True, 0), (0, None), (0, "0"), [0, 1], 0, None, "01"):
                self.refuse(self.row(*replace(row, (last,), wrong)))

    def test_names_of_regions(self):
        rows = ((("cell", 3, 4, (), (0, 1)), 2), (("closure", 4, 4, 1, (0, 3)), 2), (("array", 5, 4, 6, 0), 2),
                (("begin", 4), 1), (("end", 4), 1))
        for row, position in rows:
            for right in (0, 5, HUGE):
                self.assertTrue(is_right(self.row(*replace(row, (position,), right))))
            for wrong in (-1, -HUGE, True, False, None, "4", (4,)):
                self.refuse(self.row(*replace(row, (position,), wrong)))

    def test_numbers(self):
        for right in (0, -1, HUGE, -HUGE):
            self.assertTrue(is_right(self.row("set", 1, right)))
        for wrong in (True, False, None, "1", (1,)):
            self.refuse(self.row("set", 1, wrong))

    def test_offsets(self):
        for right in (0, 1, 63):
            self.assertTrue(is_right(self.row("load", 1, 0, right)))
            self.assertTrue(is_right(self.row("store", 1, right, 0)))
        for wrong in (64, -1, HUGE, True, False, None, "0", ()):
            self.refuse(self.row("load", 1, 0, wrong))
            self.refuse(self.row("store", 1, wrong, 0))

    def test_heads(self):
        for right in ((), (0,), (63,)):
            self.assertTrue(is_right(self.row("cell", 1, 0, right, (0,))))
        self.assertTrue(is_right(self.row("cell", 1, 0, (5,), ())))
        for wrong in ((64,), (-1,), (0, 0), (True,), (False,), (None,), ("0",), 0, None, [0], (HUGE,)):
            self.refuse(self.row("cell", 1, 0, wrong, (0,)))
        self.refuse(self.row("cell", 1, 0, (), ()))

    def test_many_words(self):
        self.assertTrue(is_right(self.row("cell", 1, 0, (0,), (0,) * 3000)))

    def test_bodies_of_calls(self):
        self.assertTrue(is_right(self.row("call", 6, 3, (0,), ())))
        for wrong in (4, -1, HUGE, True, False, None, "0", ()):
            self.refuse(self.row("call", 6, wrong, (0, 0), ()))
        for many in (0, 1, 3):
            self.refuse(self.row("call", 6, 0, (0,) * many, ()))
        # A body with a region, and a body that captures something.
        self.refuse(self.row("call", 6, 2, (0,), ()))
        captures = replace(self.RIGHT, (1, 0, 1), (2,))
        self.refuse(captures)
        self.refuse(replace(self.RIGHT, (1, 0, 2), 0))
        self.refuse(self.row("call", 6, 1, (0,), ()))

    def test_bodies_of_closures(self):
        for wrong in (4, -1, HUGE, True, False, None, "1", ()):
            self.refuse(self.row("closure", 4, 4, wrong, (0, 3)))
        for many in (0, 1, 3):
            self.refuse(self.row("closure", 4, 4, 1, (0,) * many))
        self.assertTrue(is_right(self.row("closure", 4, 4, 1, (0, 0))))
        # A body without a region, one with no input, and one with two.
        self.refuse(replace(self.RIGHT, (1, 2, 2), -1))
        self.refuse(replace(self.RIGHT, (1, 2, 0), ()))
        self.refuse(replace(self.RIGHT, (1, 1, 0), (0, 0)))
        self.refuse(self.row("closure", 4, 4, 3, ()))

    def test_handles_of_calls(self):
        def call(*handles):
            return self.row("call", 6, 3, (0,), handles)

        for right in ((), ((0, 0, "keep"),), ((HUGE, 0, "last"), (0, HUGE, "keep")), ((1, 2, "keep"), (1, 2, "last"))):
            self.assertTrue(is_right(call(*right)))
        for wrong in ((0, 0, "none"), (0, 0, "Keep"), (0, 0, None), (0, 0, True), (0, 0, ("keep",)), (0, 0, ""),
                      (-1, 0, "keep"), (0, -1, "keep"), (True, 0, "keep"), (0, False, "keep"), ("0", 0, "keep"), (0, 0),
                      (0, 0, "keep", 0), [0, 0, "keep"], None, "keep", ()):
            self.refuse(call(wrong))
            self.refuse(call((0, 0, "keep"), wrong))
        for wrong in (None, 0, [(0, 0, "keep")], "keep", (0, 0, "keep")):
            self.refuse(self.row("call", 6, 3, (0,), wrong))

    def test_places(self):
        """A place is behind its own instruction, and it is one of the body."""
        last = len(self.ROWS) - 1
        for right in (6, 7, last):
            for row in (("branch", 0, right), ("jump", right), ("switch", 0, ((right, ()),)), ("try", (), ((0, 0, right),))):
                self.assertTrue(is_right(self.row(*row, at=5)))
        for wrong in (5, 4, 0, -1, last + 1, HUGE, True, False, None, "6", (6,)):
            for row in (("branch", 0, wrong), ("jump", wrong), ("switch", 0, ((wrong, ()),)), ("try", (), ((0, 0, wrong),)),
                        ("switch", 0, ((6, ()), (wrong, ()))), ("try", (), ((1, 0, 6), (0, 0, wrong)))):
                self.refuse(self.row(*row, at=5))

    def test_places_near_the_start(self):
        for wrong in (True, 0):
            self.refuse(self.row("jump", wrong))
        self.assertTrue(is_right(self.row("jump", 1)))

    def test_arms_of_a_switch(self):
        for right in ((), ((5, ()),), ((5, (0, 6, 6)), (5, (0,)), (7, ())), ((5, ()),) * 70):
            self.assertTrue(is_right(self.row("switch", 0, right)))
        for wrong in (((5,),), ((5, (), ()),), ((5, (7,)),), ((5, (-1,)),), ((5, (True,)),), ((5, None),), ((5, [0]),), (5,),
                      (None,), [(5, ())], None, ((5, ()), ()), "ab"):
            self.refuse(self.row("switch", 0, wrong))

    def test_handlers(self):
        for kept in ((), (0,), (5, 2, 2), (HUGE,)):
            self.assertTrue(is_right(self.row("try", kept, ())))
        for kept in ((-1,), (True,), (None,), ("0",), None, [0], 0, "0"):
            self.refuse(self.row("try", kept, ()))
        for arms in ((), ((0, 0, 5),), ((3, 6, 5), (2, 0, 5), (1, 0, 6), (0, 0, 5))):
            self.assertTrue(is_right(self.row("try", (), arms)))
        for arms in (((0, 0, 5), (0, 1, 6)), ((4, 0, 5),), ((-1, 0, 5),), ((True, 0, 5),), ((False, 0, 5),), ((None, 0, 5),),
                     (("Div", 0, 5),), ((0, 7, 5),), ((0, -1, 5),), ((0, True, 5),), ((0, 0),), ((0, 0, 5, 5),), (5,), None,
                     [(0, 0, 5)], ((1, 0, 5), (0, 0, 5), (1, 0, 5)), "ab"):
            self.refuse(self.row("try", (), arms))

    def test_exceptions_that_are_raised(self):
        for right in range(4):
            self.assertTrue(is_right(self.row("raise", right, 0)))
        for wrong in (4, -1, HUGE, True, False, None, "Div", ()):
            self.refuse(self.row("raise", wrong, 0))

    def test_every_body_is_looked_at(self):
        for number, row in ((0, ("return", 4)), (1, ("return", 3)), (2, ("raise", 4, 0))):
            self.refuse(replace(self.RIGHT, (1, number, 4, 0), row))


class AnyPlaceTest(CodeTest):
    """Right code in which one place, at any depth, holds any value: it is right or refused, and nothing else happens."""

    VALUES = (None, True, False, 0, 1, -1, 7, 64, HUGE, "", "keep", "set", (), (0,), deep(200))

    def test_any_value(self):
        rights = 0
        for path in places(self.RIGHT):
            for value in self.VALUES:
                changed = replace(self.RIGHT, path, value)
                if is_right(changed):
                    rights += 1
                    self.assertEqual(len(machine.run(changed, (1,), fuel=5)), 4)
                else:
                    with self.assertRaises(CodeError):
                        machine.run(changed, (1,))
        self.assertGreater(rights, 250)

    def test_what_is_always_refused(self):
        """No place but a name of an exception may hold a text, and none None, a boolean or something deep."""
        for path in places(self.RIGHT):
            for value in (None, True, False, deep(200)):
                self.refuse(replace(self.RIGHT, path, value))
            if path != (0, 3):
                self.refuse(replace(self.RIGHT, path, "text"))


if __name__ == "__main__":
    unittest.main()
