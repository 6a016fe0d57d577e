"""Runs of texts: the plain meaning, the flat program and its region programs have the same, expected results."""

import unittest

from tests.programs import all_results, typed
from escheat import plain

LEAST = -2147483648
GREATEST = 2147483647


class RunsTest(unittest.TestCase):
    def check(self, text, arguments, wanted, fuel=200):
        """Check the result in every form; a number as wanted means this answer and nothing else."""
        if isinstance(wanted, int):
            wanted = (None, wanted, (), 0)
        for found in all_results(text, arguments, fuel):
            self.assertEqual(found, wanted, text)
            self.assertIs(type(found[1]), int)

    def body(self, body, wanted, arguments=(7, 3), before=""):
        parameters = "((n int) (m int))"
        self.check(f"{before}(fun main {parameters} int {body})", arguments, wanted)


class ArithmeticTest(RunsTest):
    ROWS = (
        ("add", 7, 3, 10), ("add", GREATEST, 1, LEAST), ("add", LEAST, -1, GREATEST), ("add", LEAST, LEAST, 0),
        ("add", GREATEST, GREATEST, -2), ("add", GREATEST, 0, GREATEST), ("add", LEAST, GREATEST, -1),
        ("sub", 7, 3, 4), ("sub", LEAST, 1, GREATEST), ("sub", GREATEST, -1, LEAST), ("sub", 0, LEAST, LEAST),
        ("sub", -1, LEAST, GREATEST), ("sub", 3, 7, -4),
        ("mul", 7, 3, 21), ("mul", -7, 3, -21), ("mul", LEAST, -1, LEAST), ("mul", GREATEST, GREATEST, 1),
        ("mul", LEAST, LEAST, 0), ("mul", 65536, 65536, 0), ("mul", 65536, 32768, LEAST), ("mul", GREATEST, 2, -2),
        ("mul", 46341, 46341, 2147488281 - 4294967296), ("mul", LEAST, 0, 0),
        ("div", 7, 2, 3), ("div", -7, 2, -3), ("div", 7, -2, -3), ("div", -7, -2, 3), ("div", 0, -5, 0),
        ("div", LEAST, -1, LEAST), ("div", LEAST, 1, LEAST), ("div", GREATEST, -1, -GREATEST), ("div", 1, LEAST, 0),
        ("div", LEAST, LEAST, 1), ("div", LEAST, 2, -1073741824), ("div", -1, 2, 0), ("div", GREATEST, LEAST, 0),
        ("rem", 7, 2, 1), ("rem", -7, 2, -1), ("rem", 7, -2, 1), ("rem", -7, -2, -1), ("rem", 0, -5, 0),
        ("rem", LEAST, -1, 0), ("rem", LEAST, 1, 0), ("rem", 1, LEAST, 1), ("rem", LEAST, LEAST, 0),
        ("rem", LEAST, GREATEST, -1), ("rem", -1, 2, -1), ("rem", GREATEST, LEAST, GREATEST),
    )

    def test_operations(self):
        for op, first, second, wanted in self.ROWS:
            with self.subTest(op=op, first=first, second=second):
                self.body(f"({op} n m)", wanted, (first, second))
                self.body(f"({op} {first} {second})", wanted)

    def test_comparisons(self):
        for first, second in ((1, 1), (1, 2), (2, 1), (-1, 1), (LEAST, GREATEST), (GREATEST, LEAST), (LEAST, LEAST)):
            self.body("(if (equal n m) 1 0)", int(first == second), (first, second))
            self.body("(if (less n m) 1 0)", int(first < second), (first, second))

    def test_division_by_zero(self):
        for op in ("div", "rem"):
            for first in (0, 7, -7, LEAST):
                self.body(f"({op} n m)", (("raised", "Div", 0), 0, (), 0), (first, 0))
                self.body(f"(handle ({op} n m) (Div x (sub x 5)))", -5, (first, 0))

    def test_arguments_are_wrapped(self):
        for argument, wanted in ((2 ** 31, LEAST), (2 ** 32 + 5, 5), (-2 ** 31 - 1, GREATEST), (10 ** 30, 1073741824)):
            self.check("(fun main ((n int)) int n)", [argument], wanted)
            self.check("(fun main ((n int)) int n)", (argument,), wanted)

    def test_order_of_evaluation(self):
        self.body("(add (seq (print 1) n) (seq (print 2) m))", (None, 10, (1, 2), 0))
        self.body("(div (seq (print 1) n) (seq (print 2) 0))", (("raised", "Div", 0), 0, (1, 2), 0))
        self.body("(sub (raise Size int 4) (seq (print 2) m))", (("raised", "Size", 4), 0, (), 0))


class ArgumentsTest(RunsTest):
    STUCK = (("stuck",), 0, (), 0)

    def test_wrong_number(self):
        text = "(fun main ((n int) (m int)) int (seq (print n) (add n m)))"
        for arguments in ((), (1,), (1, 2, 3), [1], []):
            self.check(text, arguments, self.STUCK)
            self.check(text, arguments, self.STUCK, fuel=0)
        self.check("(fun main () int 1)", (5,), self.STUCK)

    def test_right_number(self):
        self.check("(fun main () int 9)", (), 9)
        self.check("(fun main () int 9)", [], 9)
        self.check("(fun main ((a int) (b int) (c int)) int (sub a (sub b c)))", (1, 2, 4), 3)


class ExpressionsTest(RunsTest):
    LIST = "(data list (Nil) (Cons int list)) "

    def test_names(self):
        self.body("(let n (add n 1) (let n (mul n 2) n))", 16)
        self.body("(add (let n 1 n) n)", 8)
        self.body("(let f (fn (n int) (add n m)) (let m 100 (add (apply f 1) m)))", (None, 104, (), 1))

    def test_branches(self):
        for value, wanted in (("true", 1), ("false", 2)):
            self.body(f"(if {value} 1 2)", wanted)
        self.body("(if (less n m) (div 1 0) (if (equal n 7) 5 (div 1 0)))", 5)

    def test_tuples(self):
        self.body("(get 0 (tuple n m))", 7)
        self.body("(get 1 (tuple n m))", 3)
        self.body("(get 1 (get 5 (tuple 0 1 2 3 4 (tuple 8 9))))", 9)
        self.body("(if (get 0 (tuple true unit)) 4 5)", 4)

    def test_data(self):
        body = "(case (Cons n (Cons m (Nil))) ((Nil) 0) ((Cons x rest) (case rest ((Cons y z) (sub x y)) ((Nil) 1))))"
        self.body(body, 4, before=self.LIST)
        self.body("(case (Nil) ((Cons x y) x) ((Nil) 6))", 6, before=self.LIST)
        eight = "(data d " + " ".join(f"(C{at})" for at in range(8)) + ") "
        arms = " ".join(f"((C{at}) {at})" for at in range(7, -1, -1))
        for at in range(8):
            self.body(f"(case (C{at}) {arms})", at, before=eight)
        self.body("(case (D 1 2 3 4 5 6) ((D a b c d e f) (sub f (mul a (mul d e)))))", -14,
                  before="(data dd (D int int int int int int)) ")

    def test_calls(self):
        before = "(fun twice ((x int)) int (add x x)) (fun both ((x int) (y int)) int (sub (twice x) (twice y))) "
        self.body("(both n m)", (None, 8, (), 3), before=before)
        fact = "(fun fact ((x int)) int (if (less x 1) 1 (mul x (fact (sub x 1))))) "
        self.body("(fact n)", (None, 5040, (), 8), before=fact)
        self.check("(fun main ((n int)) int (if (less n 1) n (main (sub n 1))))", [5], (None, 0, (), 5))
        hidden = "(fun f ((n int)) int (add n n)) (fun g ((m int)) int (f (add m 1))) "
        self.body("(let x (g 1) (add x n))", (None, 11, (), 2), before=hidden)

    def test_closures(self):
        self.body("(apply (fn (x int) (sub x n)) m)", (None, -4, (), 1))
        self.body("(let add (fn (x int) x) 1)".replace("add", "f"), 1)
        curried = "(let f (fn (x int) (fn (y int) (sub (mul x n) y))) (apply (apply f 2) m))"
        self.body(curried, (None, 11, (), 2))
        self.body("(let f (fn (x int) (add x 1)) (apply f (apply f (apply f n))))", (None, 10, (), 3))
        counter = ("(let r (ref 0) (let up (fn (x int) (seq (set r (add (deref r) x)) (deref r)))"
                   " (add (apply up n) (apply up m))))")
        self.body(counter, (None, 17, (), 2))
        before = "(fun use ((f (fn int int)) (x int)) int (apply f (apply f x))) "
        self.body("(use (fn (x int) (mul x n)) m)", (None, 147, (), 3), before=before)

    def test_order_of_apply(self):
        body = "(apply (seq (print 1) (fn (x int) (seq (print 3) x))) (seq (print 2) n))"
        self.body(body, (None, 7, (1, 2, 3), 1))

    def test_print_and_seq(self):
        self.body("(seq (seq (print n) (print m)) (seq (print -5) 1))", (None, 1, (7, 3, -5), 0))
        self.body("(let u (print n) (seq u (seq u 2)))", (None, 2, (7,), 0))

    def test_unit_and_bool(self):
        self.body("(seq unit (if (get 1 (tuple unit false)) 1 2))", 2)
        self.body("(let u (let v unit v) (seq u 3))", 3)


class ArrayTest(RunsTest):
    def raised(self, name, payload, outs=(), ticks=0):
        return (("raised", name, payload), 0, outs, ticks)

    def test_lengths(self):
        for many in (0, 1, 2, 11, 12):
            self.check("(fun main ((n int)) int (len (array n true)))", [many], (None, many, (), many))

    def test_sizes(self):
        for many in (13, 14, -1, LEAST, GREATEST):
            self.check("(fun main ((n int)) int (len (array n 0)))", [many], self.raised("Size", many))
            self.check("(fun main ((n int)) int (len (array n 0)))", [many], self.raised("Size", many), fuel=0)
            handled = "(fun main ((n int)) int (handle (len (array n 0)) (Size x (sub x 1))))"
            self.check(handled, [many], ((many - 1 + 2 ** 31) % 2 ** 32) - 2 ** 31)

    def test_size_before_fuel(self):
        text = "(fun main ((n int)) int (add (len (array 12 1)) (len (array n 1))))"
        self.check(text, [13], self.raised("Size", 13, (), 12), fuel=12)
        self.check(text, [1], (("fuel",), 0, (), 12), fuel=12)
        self.check(text, [0], (None, 12, (), 12), fuel=12)

    def test_reading(self):
        text = "(fun main ((n int) (i int)) int (let a (array n 5) (seq (if (less 0 n) (put a 0 8) unit) (at a i))))"
        for index, wanted in ((0, 8), (1, 5), (2, 5)):
            self.check(text, (3, index), (None, wanted, (), 3))
        for index in (-1, 3, 4, LEAST, GREATEST):
            self.check(text, (3, index), self.raised("Index", index, (), 3))
        for index in (-1, 0, 1):
            self.check(text, (0, index), self.raised("Index", index))
        self.check(text, (12, 11), (None, 5, (), 12))
        self.check(text, (12, 12), self.raised("Index", 12, (), 12))

    def test_writing(self):
        text = "(fun main ((i int)) int (let a (array 3 1) (seq (put a i 9) (add (at a 0) (mul 10 (at a 2))))))"
        for index, wanted in ((0, 19), (1, 11), (2, 91)):
            self.check(text, [index], (None, wanted, (), 3))
        for index in (-1, 3, GREATEST):
            self.check(text, [index], self.raised("Index", index, (), 3))

    def test_all_parts_are_evaluated_first(self):
        text = "(fun main () int (seq (put (array 0 1) (seq (print 1) 5) (seq (print 2) 3)) 0))"
        self.check(text, (), self.raised("Index", 5, (1, 2)))
        text = "(fun main () int (len (array (seq (print 1) -1) (seq (print 2) 3))))"
        self.check(text, (), self.raised("Size", -1, (1, 2)))
        text = "(fun main () int (at (seq (print 1) (array 1 4)) (seq (print 2) 0)))"
        self.check(text, (), (None, 4, (1, 2), 1))

    def test_elements_are_one_value(self):
        text = ("(fun main () int (let a (array 2 (ref 1)) (seq (set (at a 0) 5) (add (deref (at a 1)) "
                "(seq (put a 1 (ref 7)) (mul 10 (deref (at a 1))))))))")
        self.check(text, (), (None, 75, (), 2))


class ExceptionTest(RunsTest):
    OWN = "(exception first) (exception second) "

    def test_unhandled(self):
        for name, payload in (("Div", 3), ("Index", -1), ("Size", LEAST), ("first", 0), ("second", GREATEST)):
            self.body(f"(seq (print 4) (raise {name} int {payload}))", (("raised", name, payload), 0, (4,), 0),
                      before=self.OWN)

    def test_handled(self):
        body = "(handle (raise {} int 4) (first x (add x 1)) (Div x (add x 2)) (second x (add x 3)))"
        for name, wanted in (("first", 5), ("Div", 6), ("second", 7)):
            self.body(body.format(name), wanted, before=self.OWN)
        self.body(body.format("Index"), (("raised", "Index", 4), 0, (), 0), before=self.OWN)

    def test_not_raised(self):
        self.body("(handle n (Div x (div 1 0)))", 7)
        self.body("(handle n)", 7)
        self.body("(handle (raise Div int 2))", (("raised", "Div", 2), 0, (), 0))

    def test_raised_in_an_arm(self):
        body = "(handle (raise Div int 1) (Div x (raise Div int (add x 1))))"
        self.body(body, (("raised", "Div", 2), 0, (), 0))
        self.body(f"(handle {body} (Div x (mul x 10)))", 20)
        self.body("(handle (raise Div int 1) (Div x (raise Size int 5)) (Size y (div 1 0)))",
                  (("raised", "Size", 5), 0, (), 0))
        self.body("(handle (handle (raise Div int 1) (Div x (raise Size int 5))) (Size y (add y 1)))", 6)

    def test_raised_in_the_payload(self):
        self.body("(raise Size int (raise Index int 3))", (("raised", "Index", 3), 0, (), 0))
        self.body("(raise Size int (div n 0))", (("raised", "Div", 0), 0, (), 0))

    def test_innermost(self):
        self.body("(handle (handle (div n 0) (Div x 1)) (Div x 2))", 1)
        self.body("(handle (handle (div n 0) (Size x 1)) (Div x 2))", 2)
        self.body("(handle (add (handle (div n 0) (Div x 1)) (div n 0)) (Div x 2))", 2)

    def test_through_calls_and_closures(self):
        before = "(exception lost) (fun down ((x int)) int (if (less x 1) (raise lost int 42) (add 1 (down (sub x 1))))) "
        self.body("(down m)", (("raised", "lost", 42), 0, (), 4), before=before)
        self.body("(handle (down m) (lost x (add x n)))", (None, 49, (), 4), before=before)
        self.body("(handle (apply (fn (y int) (down y)) m) (lost x x))", (None, 42, (), 5), before=before)
        self.body("(apply (fn (y int) (handle (down y) (lost x (sub x y)))) 2)", (None, 40, (), 4), before=before)

    def test_outputs_and_changes_stay(self):
        body = ("(let r (ref 1) (let a (array 1 2) (add (handle (seq (set r 5) (seq (put a 0 6) (seq (print 3) "
                "(div n 0)))) (Div x (add (deref r) (at a 0)))) (mul 100 (deref r)))))")
        self.body(body, (None, 511, (3,), 1))

    def test_rest_is_not_evaluated(self):
        self.body("(handle (add (div n 0) (seq (print 1) 2)) (Div x (seq (print 2) x)))", (None, 0, (2,), 0))
        self.body("(handle (seq (raise Div unit 1) (seq (print 1) 2)) (Div x 3))", 3)
        self.body("(let x (raise Div bool 1) (seq (print 1) 2))", (("raised", "Div", 1), 0, (), 0))
        self.body("(if (raise Div bool 1) (seq (print 1) 2) 3)", (("raised", "Div", 1), 0, (), 0))

    def test_scope_of_an_arm(self):
        self.body("(let x 5 (handle (let x 6 (raise Div int 1)) (Div y (add x y))))", 6)
        self.body("(let x 5 (add (handle (raise Div int 1) (Div x x)) x))", 6)

    def test_ticks_stay(self):
        before = "(fun one ((x int)) int (div x 0)) "
        self.body("(handle (one n) (Div x (handle (one m) (Div y 4))))", (None, 4, (), 2), before=before)


class SharingTest(RunsTest):
    """References and arrays that are seen through two names, closures, fields and handlers."""

    ROWS = (
        ("(let r (ref 1) (let s r (seq (set r 2) (deref s))))", 2),
        ("(let r (ref 1) (let s (ref 1) (seq (set r 2) (deref s))))", 1),
        ("(let a (array 2 1) (let b a (seq (put b 1 9) (add (at a 0) (at a 1)))))", (None, 10, (), 2)),
        ("(let r (ref 1) (let t (tuple r r) (seq (set (get 0 t) 8) (add (deref (get 1 t)) (deref r)))))", 16),
        ("(let r (ref 1) (let q (ref r) (seq (set (deref q) 3) (seq (set q (ref 5)) (add (deref r) "
         "(mul 10 (deref (deref q))))))))", 53),
        ("(let r (ref 1) (let f (fn (x int) (set r x)) (seq (apply f 6) (deref r))))", (None, 6, (), 1)),
        ("(let a (array 1 0) (let f (fn (x int) (at a 0)) (seq (put a 0 4) (apply f 0))))", (None, 4, (), 2)),
        ("(let r (ref 0) (case (B r) ((B s) (seq (set s 7) (deref r)))))", 7),
        ("(let r (ref 1) (seq (handle (seq (set r 2) (raise Div unit 0)) (Div x (set r (add (deref r) 10)))) "
         "(deref r)))", 12),
        ("(let r (ref 1) (let a (array 3 r) (seq (set (at a 2) 4) (deref (at a 0)))))", (None, 4, (), 3)),
        ("(let r (ref (fn (x int) x)) (let f (fn (x int) (apply (deref r) x)) (seq (set r (fn (x int) (mul x 2))) "
         "(apply f 8))))", (None, 16, (), 2)),
        ("(let r (ref 1) (seq (bump r) (seq (bump r) (deref r))))", (None, 3, (), 2)),
        ("(let a (array 1 (array 1 1)) (seq (put (at a 0) 0 5) (at (at a 0) 0)))", (None, 5, (), 2)),
    )

    def test_rows(self):
        before = "(data box (B (ref int))) (fun bump ((r (ref int))) unit (set r (add (deref r) 1))) "
        for body, wanted in self.ROWS:
            with self.subTest(body):
                self.body(body, wanted, before=before)

    def test_knot(self):
        """A reference through which a closure calls itself."""
        body = ("(let r (ref (fn (x int) x)) (let f (fn (x int) (if (less x 1) 0 (add x (apply (deref r) (sub x 1)))))"
                " (seq (set r f) (apply f n))))")
        self.body(body, (None, 28, (), 8))


class PlainTest(unittest.TestCase):
    def test_program_is_not_changed(self):
        text = "(fun main ((n int)) int (let r (ref 1) (seq (set r n) (deref r))))"
        tree = typed(text)
        self.assertEqual([plain.run(tree, [at])[1] for at in (4, 5, 4)], [4, 5, 4])
        self.assertEqual(tree, typed(text))


if __name__ == "__main__":
    unittest.main()
