"""Fuel: how the ticks of a run are counted, and how a run ends when they do not suffice."""

import sys
import threading
import unittest

from escheat import flat, place, plain, regions
from tests.programs import all_results, flattened, typed

LOOP = "(fun main ((n int)) int (if (less n 1) n (main (sub n 1))))"


class FuelTest(unittest.TestCase):
    def check(self, text, arguments, fuel, wanted):
        for found in all_results(text, arguments, fuel):
            self.assertEqual(found, wanted, (text, fuel))

    def check_around(self, text, arguments, result):
        """Check runs with no fuel, less than enough, just enough, and more."""
        fault, answer, outs, ticks = result
        for fuel in (ticks, ticks + 1, ticks + 100, 200, 201, 10 ** 30):
            if ticks <= 200:
                self.check(text, arguments, fuel, result)
        for fuel in {0, 1, ticks // 2, ticks - 1}:
            if 0 <= fuel < ticks:
                for found in all_results(text, arguments, fuel):
                    self.assertEqual((found[0], found[1], found[3]), (("fuel",), 0, fuel))
                    self.assertEqual(found[2], outs[:len(found[2])])

    def test_calls(self):
        self.check_around(LOOP, [3], (None, 0, (), 3))
        self.check_around("(fun one () int 1) (fun main () int (add (one) (add (one) (one))))", (), (None, 3, (), 3))

    def test_main_costs_nothing(self):
        self.check_around("(fun main () int 5)", (), (None, 5, (), 0))
        self.check(LOOP, [0], 0, (None, 0, (), 0))

    def test_closures(self):
        text = "(fun main ((n int)) int (let f (fn (x int) (add x 1)) (apply f (apply f n))))"
        self.check_around(text, [1], (None, 3, (), 2))

    def test_making_a_closure_costs_nothing(self):
        self.check("(fun main () int (let f (fn (x int) x) 1))", (), 0, (None, 1, (), 0))

    def test_arrays(self):
        text = "(fun main ((n int)) int (add (len (array n 1)) (len (array n 2))))"
        for many in (0, 1, 5, 12):
            self.check_around(text, [many], (None, 2 * many, (), 2 * many))
        # Two ticks are there and three are needed: the fuel is used up.
        self.check("(fun main ((n int)) int (seq (print 1) (len (array n 1))))", [3], 2, (("fuel",), 0, (1,), 2))

    def test_negative_and_great_fuel(self):
        self.check(LOOP, [1], -1, (("fuel",), 0, (), 0))
        self.check(LOOP, [1], -10 ** 30, (("fuel",), 0, (), 0))
        self.check(LOOP, [200], 10 ** 30, (None, 0, (), 200))
        self.check(LOOP, [201], 10 ** 30, (("fuel",), 0, (), 200))
        self.check(LOOP, [201], 201, (("fuel",), 0, (), 200))
        self.check(LOOP, [200], 200, (None, 0, (), 200))
        self.check(LOOP, [200], 199, (("fuel",), 0, (), 199))

    def test_default_fuel(self):
        tree, program = typed(LOOP), flattened(LOOP)
        for arguments, wanted in (([200], (None, 0, (), 200)), ([201], (("fuel",), 0, (), 200))):
            self.assertEqual(plain.run(tree, arguments), wanted)
            self.assertEqual(flat.run(program, arguments), wanted)
            self.assertEqual(regions.run(place.find(program), arguments)[0], wanted)

    def test_where_a_run_ends(self):
        rows = (
            # In an argument, behind what was printed before it.
            ("(fun f ((x int)) int (seq (print x) x)) (fun main () int (f (add (f 1) (f 2))))",
             [(), (1,), (1, 2), (1, 2, 3)]),
            # In a body.
            ("(fun f ((x int)) int (seq (print x) (if (less x 3) (f (add x 1)) x))) (fun main () int (f 1))",
             [(), (1,), (1, 2), (1, 2, 3)]),
            # In an array: its element has been evaluated, the second one has not.
            ("(fun main () int (add (len (array 1 (print 7))) (len (array 1 (print 8)))))", [(7,), (7, 8), (7, 8)]),
            # In a closure.
            ("(fun main () int (let f (fn (x int) (seq (print x) x)) (add (apply f 4) (apply f 5))))",
             [(), (4,), (4, 5)]),
        )
        for text, outs in rows:
            for fuel, printed in enumerate(outs):
                for found in all_results(text, (), fuel):
                    self.assertEqual(found[2], printed, (text, fuel))
                    self.assertEqual(found[0], None if fuel == len(outs) - 1 else ("fuel",))
                    self.assertEqual(found[3], fuel)

    def test_arguments_come_before_the_tick(self):
        text = "(fun f ((x int)) int x) (fun main () int (f (seq (print 1) (raise Div int 2))))"
        self.check(text, (), 0, (("raised", "Div", 2), 0, (1,), 0))
        text = "(fun main () int (apply (fn (x int) x) (seq (print 1) (raise Div int 2))))"
        self.check(text, (), 0, (("raised", "Div", 2), 0, (1,), 0))

    def test_handlers_do_not_see_it(self):
        text = "(fun f () int 1) (fun main () int (handle (seq (print 1) (f)) (Div x 2) (Index x 3) (Size x 4)))"
        self.check(text, (), 0, (("fuel",), 0, (1,), 0))
        self.check(text, (), 1, (None, 1, (1,), 1))

    def test_raised_before_the_fuel_ends(self):
        text = "(fun f ((x int)) int (div x 0)) (fun main () int (handle (f 1) (Div x (f 2))))"
        self.check(text, (), 1, (("fuel",), 0, (), 1))
        self.check(text, (), 2, (("raised", "Div", 0), 0, (), 2))
        self.check(text, (), 200, (("raised", "Div", 0), 0, (), 2))


class DeepTest(unittest.TestCase):
    """Calls nest as deeply as the fuel allows, with little of Python's own stack."""

    DEEP = "(add 1 " * 7 + "{}" + ")" * 7

    def run_with_small_stack(self, text, arguments):
        """All results of a text, in a thread that may only call a few functions deep."""
        results = []

        def act():
            sys.setrecursionlimit(120)
            results.extend(all_results(text, arguments))

        before = sys.getrecursionlimit()
        thread = threading.Thread(target=act)
        try:
            thread.start()
            thread.join()
        finally:
            sys.setrecursionlimit(before)
        self.assertEqual(len(results), 4)
        return results

    def test_calls(self):
        call = self.DEEP.format("(deep (sub n 1))")
        text = f"(fun deep ((n int)) int (if (less n 1) 0 {call})) (fun main ((n int)) int (deep n))"
        for result in self.run_with_small_stack(text, [199]):
            self.assertEqual(result, (None, 199 * 7, (), 200))
        for result in self.run_with_small_stack(text, [200]):
            self.assertEqual(result, (("fuel",), 0, (), 200))

    def test_closures(self):
        text = ("(fun main ((n int)) int (let r (ref (fn (x int) 0)) (let f (fn (x int) (if (less x 1) 5 "
                "(handle (add 1 (apply (deref r) (sub x 1))) (Size y y)))) (seq (set r f) (apply f n)))))")
        for result in self.run_with_small_stack(text, [199]):
            self.assertEqual(result, (None, 204, (), 200))

    def test_exception_out_of_the_depth(self):
        text = ("(fun deep ((n int)) int (if (less n 1) (raise Size int 3) (handle (add 1 (deep (sub n 1))) "
                "(Div x 1) (Index x 2)))) (fun main ((n int)) int (handle (deep n) (Size x (add x n))))")
        for result in self.run_with_small_stack(text, [198]):
            self.assertEqual(result, (None, 201, (), 199))

    def test_deep_data(self):
        text = ("(data list (Nil) (Cons int list)) "
                "(fun build ((n int)) list (if (less n 1) (Nil) (Cons n (build (sub n 1))))) "
                "(fun sum ((xs list)) int (case xs ((Nil) 0) ((Cons x rest) (add x (sum rest))))) "
                "(fun main ((n int)) int (sum (build n)))")
        for result in self.run_with_small_stack(text, [99]):
            self.assertEqual(result, (None, 4950, (), 200))


if __name__ == "__main__":
    unittest.main()
