"""The steps and the variables of flat programs, word for word."""

import unittest

from escheat import flat
from tests.helpers import BOOL, FIRST, INT, UNIT
from tests.programs import PAIR, block, flattened, number, step

LIST = ("data", 0, 0)


class FlattenTest(unittest.TestCase):
    def check(self, body, steps, value, parameters="((n int) (m int))", before=""):
        """Check the body of the main function, and that the program is right."""
        program = flattened(f"{before}(fun main {parameters} int {body})")
        self.assertIsNone(flat.check(program))
        found = program[2][-1]
        self.assertEqual(found[5][0], ())
        for one, other in zip(found[5][1], steps):
            self.assertEqual(one, other)
        self.assertEqual(found[5], block(steps, value))
        return program

    def test_heads(self):
        program = flattened("(data list (Nil) (Cons int list)) (exception lost) "
                            "(fun f ((a bool) (b list)) (ref list) (ref b)) (fun main ((n int)) int n)")
        self.assertEqual(program, (
            (("list", (("Nil", ()), ("Cons", (INT, LIST)))),),
            FIRST + ("lost",),
            (
                ("f", 0, (), (BOOL, LIST), ("ref", (LIST,), 0), block((step("ref", 2, ("ref", (LIST,), 0), (1,)),), 2)),
                ("main", 0, (), (INT,), INT, block((), 0)),
            ),
        ))

    def test_literals(self):
        self.check("-5", [number(2, -5)], 2)
        self.check("n", [], 0)
        self.check("m", [], 1)
        self.check("(seq true (seq unit 3))", [
            step("bool", 2, BOOL, (), True), step("unit", 3, UNIT), number(4, 3),
        ], 4)

    def test_operations(self):
        for op in ("add", "sub", "mul", "div", "rem"):
            self.check(f"({op} m n)", [step(op, 2, INT, (1, 0))], 2)
        for op in ("equal", "less"):
            self.check(f"(seq ({op} n m) n)", [step(op, 2, BOOL, (0, 1))], 0)
        self.check("(add (mul n n) (sub 1 m))", [
            step("mul", 2, INT, (0, 0)), number(3), step("sub", 4, INT, (3, 1)), step("add", 5, INT, (2, 4)),
        ], 5)

    def test_let_and_seq(self):
        self.check("(let x n (let y x (add x y)))", [step("add", 2, INT, (0, 0))], 2)
        self.check("(let n 5 (let m n (add n m)))", [number(2, 5), step("add", 3, INT, (2, 2))], 3)
        self.check("(let x (let n 4 n) (sub x n))", [number(2, 4), step("sub", 3, INT, (2, 0))], 3)
        self.check("(seq (print n) (seq m n))", [step("print", 2, UNIT, (0,))], 0)

    def test_cells(self):
        self.check("(get 1 (tuple n m))", [step("tuple", 2, PAIR, (0, 1)), step("get", 3, INT, (2,), 1)], 3)
        ref = ("ref", (INT,), 0)
        self.check("(let r (ref n) (seq (set r m) (deref r)))", [
            step("ref", 2, ref, (0,)), step("set", 3, UNIT, (2, 1)), step("deref", 4, INT, (2,)),
        ], 4)
        array = ("array", (INT,), 0)
        self.check("(let a (array n m) (seq (put a n m) (add (at a 0) (len a))))", [
            step("array", 2, array, (0, 1)), step("put", 3, UNIT, (2, 0, 1)), number(4, 0),
            step("at", 5, INT, (2, 4)), step("len", 6, INT, (2,)), step("add", 7, INT, (5, 6)),
        ], 7)

    def test_calls_and_raise(self):
        before = "(exception lost) (fun f ((a int) (b bool)) int a) "
        self.check("(main (f n true) m)", [
            step("bool", 2, BOOL, (), True), step("call", 3, INT, (0, 2), 0), step("call", 4, INT, (3, 1), 1),
        ], 4, before=before)
        self.check("(get 0 (raise lost (tuple int int) m))", [
            step("raise", 2, PAIR, (1,), 3), step("get", 3, INT, (2,), 0),
        ], 3, before=before)

    def test_if(self):
        self.check("(if (less n m) (add n 1) m)", [
            step("less", 2, BOOL, (0, 1)),
            step("if", 5, INT, (2,), blocks=(block((number(3), step("add", 4, INT, (0, 3))), 4), block((), 1))),
        ], 5)

    def test_case(self):
        before = "(data list (Nil) (Cons int list)) "
        self.check("(case (Cons n (Nil)) ((Cons x xs) (add x 1)) ((Nil) 2))", [
            step("make", 2, LIST, (), 0), step("make", 3, LIST, (0, 2), 1),
            step("case", 9, INT, (3,), blocks=(
                block((number(4, 2),), 4),
                block((number(7), step("add", 8, INT, (5, 7))), 8, (5, 6)),
            )),
        ], 9, before=before)

    def test_fn_and_apply(self):
        kind = ("fn", (INT, INT), 0)
        self.check("(apply (fn (x int) (sub x n)) m)", [
            step("fn", 4, kind, blocks=(block((step("sub", 3, INT, (2, 0)),), 3, (2,)),)),
            step("apply", 5, INT, (4, 1)),
        ], 5)
        self.check("(apply (apply (fn (x int) (fn (n int) (sub x n))) m) n)", [
            step("fn", 6, ("fn", (INT, kind), 0), blocks=(block((
                step("fn", 5, kind, blocks=(block((step("sub", 4, INT, (2, 3)),), 4, (3,)),)),
            ), 5, (2,)),)),
            step("apply", 7, kind, (6, 1)), step("apply", 8, INT, (7, 0)),
        ], 8)

    def test_handle(self):
        self.check("(handle (div n m) (Size x x) (Div y (add y 1)))", [
            step("handle", 8, INT, (), (2, 0), blocks=(
                block((step("div", 2, INT, (0, 1)),), 2),
                block((), 3, (3,)),
                block((), 4, (4,)),
                block((number(6), step("add", 7, INT, (5, 6))), 7, (5,)),
            )),
        ], 8)
        self.check("(handle n)", [
            step("handle", 3, INT, (), (), blocks=(block((), 0), block((), 2, (2,)))),
        ], 3)

    def test_nested_blocks(self):
        body = "(let x (if true (handle (if false 1 n) (Div e e)) 2) (apply (fn (y int) (if true x y)) x))"
        self.check(body, [
            step("bool", 2, BOOL, (), True),
            step("if", 10, INT, (2,), blocks=(
                block((step("handle", 8, INT, (), (0,), blocks=(
                    block((step("bool", 3, BOOL, (), False), step("if", 5, INT, (3,), blocks=(
                        block((number(4),), 4), block((), 0)))), 5),
                    block((), 6, (6,)), block((), 7, (7,)),
                )),), 8),
                block((number(9, 2),), 9),
            )),
            step("fn", 14, ("fn", (INT, INT), 0), blocks=(block((
                step("bool", 12, BOOL, (), True),
                step("if", 13, INT, (12,), blocks=(block((), 10), block((), 11))),
            ), 13, (11,)),)),
            step("apply", 15, INT, (14, 10)),
        ], 15)

    def test_the_argument_is_not_changed(self):
        text = "(fun main () int (let x 1 (if true x 2)))"
        self.assertEqual(flattened(text), flattened(text))

    def test_largest_trees(self):
        """Every tree that is accepted gives a program that is accepted."""
        add = "1"
        for _ in range(10):
            add = f"(add {add} 1)"
        wide = "1"
        for _ in range(7):
            wide = f"(add {wide} {wide})"
        for body in (add, wide, "(seq " * 8 + "1" + " 1)" * 8, "(if true " * 9 + "1" + " 1)" * 9):
            self.assertIsNone(flat.check(flattened(f"(fun main () int {body})")))


if __name__ == "__main__":
    unittest.main()
