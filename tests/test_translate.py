"""Code that was translated: it runs as the region program does, event by event, for every amount of fuel."""

import random
import unittest

from escheat import flat, machine, place, regions
from escheat.errors import CodeError, KindError
from escheat.kinds import with_kinds
from tests.helpers import INT, JUNK, UNIT, deep, replace
from tests.programs import block, end, flattened, function, in_pair, main_of, new, number, pair, program, region_fault, step
from tests.random_steps import with_more_steps
from tests.random_trees import Maker
from tests.region_changes import changed
from tests.test_place import TEXTS

ARGUMENTS = ((3, 4, 5), (0, 1, -1), (2 ** 31, 12, 13))

# Each op in a function, in a closure, in the blocks of an if and a case, in the body of a handle and in its arms.
BODIES = (
    "(add n 7)", "(if (less n 3) (sub 1 n) (mul n n))", "(if (equal n 3) (div 9 n) (rem 9 n))", "(if true (seq unit n) 0)",
    "(get 1 (tuple n (add n 1) 5))", "(let t (tuple n (tuple 2 3)) (get 0 (get 1 t)))", "(if false n (print_it n))",
    "(case (if (less n 2) (Nil) (Cons n (Nil))) ((Nil) 0) ((Cons x xs) x))", "(case (Both n 2) ((Both x y) (sub x y)))",
    "(apply (fn (x int) (add x n)) 5)", "(let f (fn (x int) (fn (y int) (mul x (add y n)))) (apply (apply f 2) n))",
    "(let r (ref n) (seq (set r (add (deref r) 1)) (deref r)))", "(let a (array 3 n) (seq (put a 1 9) (add (at a n) (len a))))",
    "(len (array n true))", "(raise lost int (add n 1))", "(div n 0)", "(handle (div n n) (Div x 5) (lost x 9))",
    "(seq (print n) (seq (print 8) n))", "(twice (twice n))", "(let t (tuple n n) (handle (at (array 2 1) n) (Index i (get 0 t))))",
    "(handle (raise lost int (get 0 (tuple n n))) (lost x (get 1 (tuple x x))))", "(down n)",
    "(handle (down (add n 190)) (Div x x))", "(case (build n) ((Nil) 0) ((Cons x xs) x))",
    "(let xs (build n) (handle (deref (handle (ref (raise lost int n)) (lost x (ref (add x 1))))) (Size x 3)))",
)
AROUND = (
    "{}", "(apply (fn (n int) {}) (add n 1))", "(if (less n 2) {} (add 1 {}))",
    "(case (Both n n) ((Both n m) {}))", "(handle {} (Div d (add d 1)) (Index i (sub 0 i)) (lost x x))",
    "(handle (raise lost int n) (lost n {}))", "(let p (tuple n n) (add {} (get 0 p)))",
)
BEFORE = (
    "(exception lost) (data list (Nil) (Cons int list)) (data both (Both int int)) "
    "(fun print_it ((n int)) int (seq (print n) n)) (fun twice ((n int)) int (get 0 (tuple (mul 2 n) n))) "
    "(fun down ((n int)) int (if (less n 1) 0 (add 1 (down (sub n 1))))) "
    "(fun build ((n int)) list (if (less n 1) (Nil) (Cons n (build (sub n 1))))) "
)


def texts():
    for around in AROUND:
        for body in BODIES:
            yield BEFORE + "(fun main ((n int)) int " + around.format(body, body) + ")"


class TranslateTest(unittest.TestCase):
    def check(self, value, arguments=ARGUMENTS, fuels=None):
        """Compare the runs of a region program and of its code, for every amount of fuel up to what is needed."""
        code = machine.translate(value)
        self.assertIsNone(machine.check_code(code))
        self.assertEqual((code[0], code[2]), (value[1], len(value[2]) - 1))
        many = len(value[2][-1][3])
        for given in arguments:
            wanted = regions.run(value, given[:many])
            self.assertEqual(machine.run(code, given[:many]), wanted)
            for fuel in range(min(wanted[0][3], 14)) if fuels is None else fuels:
                self.assertEqual(machine.run(code, given[:many], fuel=fuel), regions.run(value, given[:many], fuel=fuel))
        return code


class ProgramsTest(TranslateTest):
    def test_each_op_everywhere(self):
        faults = set()
        for text in texts():
            value = flattened(text)
            for placed in (place.build(value), place.coarse(value)):
                self.check(placed, ((3,), (0,), (12,)))
            faults.add((machine.run(machine.translate(placed), (12,))[0][0] or ("none",))[0])
        self.assertEqual(faults, {"none", "raised", "fuel"})

    def test_every_fuel(self):
        for text in TEXTS:
            value = flattened(text)
            for placed in (place.build(value), place.coarse(value)):
                self.check(placed, fuels=(*range(-2, 60), 150, 199, 200, 201, 10 ** 30))

    def test_random(self):
        for seed in range(40):
            try:
                value = flat.flatten(with_kinds(Maker(seed).tree()))
            except KindError:
                continue
            if seed % 2:
                value = with_more_steps(value, random.Random(seed), 0.3)
            for placed in (place.build(value), place.coarse(value)):
                self.check(placed, fuels=(0, 1, 2, 3, 5, 8, 13, 50))

    def test_changed_programs(self):
        """Region programs that no one found, but that are accepted."""
        accepted = 0
        for seed in range(500):
            chance = random.Random(seed)
            value = changed(place.build(flattened(TEXTS[seed % len(TEXTS)])), chance)
            if region_fault(value) is None:
                accepted += 1
                self.check(value, fuels=(0, 1, 2, 5))
            else:
                with self.assertRaises(CodeError):
                    machine.translate(value)
        self.assertGreater(accepted, 30)
        self.assertLess(accepted, 450)

    def test_wrong_number_of_arguments(self):
        code = machine.translate(place.build(flattened("(fun main ((n int)) int (seq (print n) n))")))
        for arguments in ((), (1, 2)):
            self.assertEqual(machine.run(code, arguments), ((("stuck",), 0, (), 0), 0, 0, ()))

    def test_never_stuck(self):
        for text in TEXTS:
            value = place.build(flattened(text))
            for given in ARGUMENTS:
                result = machine.run(machine.translate(value), given[:len(value[2][-1][3])])[0]
                self.assertNotEqual(result[0], ("stuck",))


class HandMadeTest(TranslateTest):
    HUGE = 10 ** 30

    def test_numbers_of_any_size(self):
        """Variables and regions of any size; the regions keep their names."""
        far = self.HUGE
        steps = (new(far), pair(far, far), new(7), step("ref", 5, ("ref", (in_pair(far),), 7), (far,), region=7),
                 step("deref", far + 1, in_pair(far), (5,)), end(7), step("get", 2, INT, (far + 1,), 1), end(far))
        code = self.check(main_of(steps, 2))
        names = {row[1] for row in code[1][0][4] if row[0] in ("begin", "end")}
        self.assertEqual(names, {7, far})

    def test_normal_arms(self):
        """Steps in the normal arm, and exceptions there, which the same handle does not see."""
        kept = step("handle", 9, INT, (), (0, 1), use=(4,), blocks=(
            block((step("get", 3, INT, (1,), 0), step("div", 5, INT, (3, 0))), 5),
            block((step("get", 7, INT, (1,), 0), step("rem", 8, INT, (7, 6)), end(4)), 8, (6,)),
            block((step("get", 11, INT, (1,), 0), end(4)), 11, (10,)),
            block((end(4),), 12, (12,)),
        ))
        value = main_of((new(4), pair(1, 4), kept), 9)
        self.check(value, ((0,), (3,), (1,)), fuels=(0, 1))
        outer = step("handle", 20, INT, (), (0,), blocks=(block((new(4), pair(1, 4), kept), 9), block((), 21, (21,)),
                                                         block((), 22, (22,))))
        self.check(main_of((outer,), 20), ((0,), (3,), (1,)))

    def test_what_an_exception_ends(self):
        """Regions of several frames, some of which are kept, in an order that is not that of their numbers."""
        raising = function((new(1), pair(1, 1), step("raise", 2, INT, (0,), 3), end(1)), 2, kinds=(INT,))
        body = block((new(0), pair(2, 0), step("call", 3, INT, (0,), 0), end(0)), 3)
        handle = step("handle", 5, INT, (), (3,), use=(8, 9), blocks=(body, block((end(8), end(9)), 4, (4,)), block(
            (step("get", 7, INT, (1,), 0), end(9), end(8)), 7, (6,))))
        value = program(raising, function((new(9), new(8), pair(1, 8), handle), 5, name="main", kinds=(INT,)),
                        exceptions=("lost",))
        self.check(value)
        events = [event[:2] for event in machine.run(machine.translate(value), (7,))[3]]
        self.assertEqual(events, [("new", 0), ("new", 1), ("cell", 1), ("new", 2), ("cell", 2), ("new", 3), ("cell", 3),
                                  ("end", 3), ("end", 2), ("touch", 1), ("end", 0), ("end", 1)])

    def test_regions_that_are_handed_on(self):
        """Two regions, of which one is kept, one is handed over, and a third is not touched."""
        callee = function((step("get", 3, INT, (0,), 0), end(1), step("get", 4, INT, (1,), 0), step("add", 5, INT, (3, 4)),
                           end(0)), 5, kinds=(in_pair(1), in_pair(0), in_pair(2)), formals=3, touch=(0, 1))
        call = step("call", 4, INT, (1, 2, 3), 0, use=((6, "keep"), (5, "last"), (7, "none")))
        steps = (new(5), new(6), new(7), pair(1, 5), pair(2, 6), pair(3, 7), call, end(7), end(6))
        code = self.check(program(callee, function(steps, 4, name="main", kinds=(INT,))))
        self.assertIn(("call", ((0, 6, "keep"), (1, 5, "last"))), [(row[0], row[-1]) for row in code[1][1][4]])

    def test_closures_have_bodies_of_their_own(self):
        text = "(fun main ((n int)) int (let f (fn (x int) (fn (y int) (add n (add x y)))) (apply (apply f 1) 2)))"
        code = self.check(place.build(flattened(text)))
        self.assertEqual(len(code[1]), 3)
        self.assertEqual(sorted((len(one[0]), len(one[1])) for one in code[1]), [(1, 0), (1, 1), (1, 2)])

    def test_main_that_calls_itself(self):
        text = "(fun main ((n int)) int (if (less n 1) n (get 0 (tuple (main (sub n 1)) n))))"
        self.check(place.build(flattened(text)), ((150,), (250,), (0,)))

    def test_a_case_with_one_constructor(self):
        datas = (("one", (("One", ()),)),)
        kind = ("data", 0, 0)
        steps = (new(0), step("make", 1, kind, (), 0), step("case", 2, INT, (1,), blocks=(block((), 0),)), end(0))
        self.check(main_of(steps, 2, datas=datas))


class RejectedTest(unittest.TestCase):
    def refuse(self, value):
        with self.assertRaises(CodeError):
            machine.translate(value)

    def test_any_value(self):
        for value in (*JUNK, deep(200), ((),) * 99999, [(), (), ()], ((), ("Div", "Index", "Size"), ())):
            self.refuse(value)

    def test_each_reason(self):
        right = (new(0), pair(1, 0), step("get", 2, INT, (1,), 0), end(0))
        self.assertIsNotNone(machine.translate(main_of(right, 2)))
        other = step("if", 5, INT, (4,), blocks=(block((end(0),), 0), block((), 0)))
        yes = step("bool", 4, ("bool", (), 0), (), True)
        handle = step("handle", 5, INT, (), (), use=(0,), blocks=(block((end(0),), 0), block((), 6, (6,))))
        wrong = {
            "shape": (*right[:3], step("end", -1, UNIT, region=-1)), "flat": (*right[:2], step("get", 2, INT, (1,), 5), end(0)),
            "scope": right[1:], "kind": (new(0), new(1), step("tuple", 1, in_pair(1), (0, 0), region=0), end(0), end(1)),
            "ended": (new(0), pair(1, 0), end(0), step("get", 2, INT, (1,), 0)), "left": right[:3],
            "join": (new(0), yes, other), "kept": (new(0), handle, end(0)),
        }
        for reason, steps in wrong.items():
            value = main_of(steps, 0 if reason in ("join", "kept", "kind") else 2)
            with self.subTest(reason):
                self.assertEqual(region_fault(value)[1], reason)
                self.refuse(value)

    def test_a_changed_program(self):
        value = place.build(flattened(TEXTS[4]))
        self.assertIsNotNone(machine.translate(value))
        for path, new_value in (((2, 0, 2), ()), ((2, 1, 5, 2), 99), ((1,), ()), ((2, 2, 0), 5)):
            self.refuse(replace(value, path, new_value))


if __name__ == "__main__":
    unittest.main()
