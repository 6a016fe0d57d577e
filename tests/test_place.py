"""The regions that are found: safe, early, late, handed on, fine, and with constant space; coarse and build."""

import random
import unittest
from unittest import mock

from escheat import flat, place, regions
from escheat.errors import FlatError, KindError
from escheat.kinds import with_kinds
from tests import region_moves
from tests.helpers import INT, UNIT, replace
from tests.programs import (
    block, end, flat_fault, flattened, found, function, in_pair, main_of, new, number, pair, program, region_fault, step,
)
from tests.random_steps import with_more_steps
from tests.random_trees import Maker

LIST = "(data list (Nil) (Cons int list)) "
LENGTH = "(fun length ((xs list)) int (case xs ((Nil) 0) ((Cons x rest) (add 1 (length rest))))) "
BUILD = "(fun build ((n int)) list (if (less n 1) (Nil) (Cons n (build (sub n 1))))) "

# Texts that have, between them, everything that regions can do.
TEXTS = (
    "(fun main ((n int)) int n)",
    "(fun main ((n int)) int (get 0 (tuple n (add n 1))))",
    "(fun main ((n int)) int (let t (tuple n n) (if (less n 1) (get 0 t) (if (less n 5) 3 (get 1 t)))))",
    "(fun main ((n int)) int (let t (tuple n n) (let u (tuple n t) (add (get 0 (get 1 u)) (get 0 t)))))",
    LIST + LENGTH + BUILD + "(fun main ((n int)) int (length (build n)))",
    LIST + "(fun main ((n int)) int (case (Cons n (Nil)) ((Nil) 0) ((Cons x y) (case y ((Nil) x) ((Cons a b) a)))))",
    "(fun use ((t (tuple int int)) (u (tuple int int))) int (add (get 0 t) (get 1 u))) "
    "(fun main ((n int)) int (let t (tuple n 1) (let u (tuple 2 n) (sub (use t u) (add (use t t) (use u t))))))",
    "(fun idle ((t (tuple int int)) (u (tuple int int))) int (get 0 t)) "
    "(fun main ((n int)) int (let t (tuple n 1) (add (idle t t) (idle (tuple 1 2) (tuple 3 4)))))",
    "(fun main ((n int)) int (let r (ref (tuple n n)) (seq (set r (tuple 1 2)) (get 0 (deref r)))))",
    "(fun main ((n int)) int (let a (array 3 (ref n)) (seq (put a 0 (ref 5)) (deref (at a 1)))))",
    "(fun main ((n int)) int (let t (tuple n n) (let f (fn (x int) (add x (get 0 t))) (apply f (apply f 1)))))",
    "(fun main ((n int)) int (let f (fn (x int) (get 0 (tuple x x))) (apply f n)))",
    "(fun main ((n int)) int (get 0 (apply (fn (t (tuple int int)) (tuple (get 1 t) n)) (tuple 1 2))))",
    "(fun main ((n int)) int (apply (apply (fn (x int) (fn (y int) (get 0 (tuple x y)))) n) 2))",
    "(fun main ((n int)) int (let t (tuple n n) (handle (div (get 0 t) 0) (Div x (get 1 t)) (Size x 2))))",
    "(fun main ((n int)) int (let t (tuple n n) (handle (div (get 0 t) 0) (Div x 1) (Size x 2))))",
    "(fun main ((n int)) int (let t (tuple n n) (add (handle (get 0 (handle t (Div x (tuple x x)))) (Size x 2)) 3)))",
    "(fun main ((n int)) int (let t (tuple n n) (add (handle (div 1 n) (Div x 1)) (get 0 t))))",
    "(fun main ((n int)) int (get 1 (handle (raise Div (tuple int int) n) (Div x (tuple x x)))))",
    "(fun main ((n int)) int (handle (let t (tuple n n) (if (less n 3) (raise Div int (get 0 t)) (get 1 t))) (Div x x)))",
    "(fun pick ((b bool) (t (tuple int int)) (u (tuple int int))) (tuple int int) (if b t u)) "
    "(fun main ((n int)) int (get 0 (pick (less n 1) (tuple n n) (tuple 1 2))))",
    "(fun f ((n int) (t (tuple int (tuple int int)))) int (if (less n 1) (get 0 (get 1 t)) "
    "(f (sub n 1) (tuple n (get 1 t))))) (fun main ((n int)) int (f n (tuple n (tuple 8 9))))",
    "(fun up ((f (fn int int)) (n int)) int (if (less n 1) (apply f n) (up (fn (x int) (add x (apply f n))) (sub n 1)))) "
    "(fun main ((n int)) int (up (fn (x int) x) n))",
    "(fun swap ((n int) (a (ref int)) (b (ref int))) int (if (less n 1) (deref a) (swap (sub n 1) b a))) "
    "(fun main ((n int)) int (swap n (ref 1) (ref 2)))",
    "(exception lost) (fun deep ((n int) (t (tuple int int))) int (if (less n 1) (raise lost int (get 0 t)) "
    "(add (deep (sub n 1) (tuple n n)) (get 1 t)))) (fun main ((n int)) int (handle (deep n (tuple 5 5)) (lost x x)))",
    "(fun main ((n int)) int (let t (raise Div (tuple int (tuple int bool)) n) (get 0 t)))",
    "(data box (Box (tuple int int) (fn int int)) (No)) (fun main ((n int)) int "
    "(case (Box (tuple n 2) (fn (x int) (mul x n))) ((No) 0) ((Box t f) (apply f (get 1 t)))))",
    "(fun main ((n int)) int (if (less n 1) n (get 0 (tuple (main (sub n 1)) n))))",
    "(fun f ((t (tuple int int)) (n int)) int (if (less n 1) (get 0 t) (apply (fn (x int) (f t (sub x 1))) n))) "
    "(fun main ((n int)) int (f (tuple n n) n))",
)


def cells(program, number):
    """The dict from the variables of the steps of a function that make cells to their regions."""
    return {
        step[1]: step[5] for path in region_moves.blocks_of(program) if path[0] == number
        for step in region_moves.steps_at(program, path)
        if step[0] in ("tuple", "fn", "ref", "array") or step[0] == "make" and step[3]
    }


def random_programs(seeds):
    """Random flat programs, half of them with steps that flatten would not make."""
    for seed in seeds:
        try:
            value = flat.flatten(with_kinds(Maker(seed).tree()))
        except KindError:
            continue
        yield with_more_steps(value, random.Random(seed), 0.2) if seed % 2 else value


class PointsTest(unittest.TestCase):
    """The points on the programs of TEXTS and on random ones."""

    @classmethod
    def setUpClass(cls):
        made = list(random_programs(range(500, 536)))
        # Where there would be too many regions, nothing is promised but that the program is safe.
        few = [value for value in made if place.find(value) != place.coarse(value)]
        assert len(few) > len(made) - 4
        cls.programs = [flattened(text) for text in TEXTS] + few
        cls.placed = [place.find(program) for program in cls.programs]

    def rejected(self, value):
        """The reason for which a program that has the right form is rejected."""
        fault = region_fault(value)
        self.assertIsNotNone(fault)
        self.assertNotIn(fault[1], ("shape", "flat"))
        return fault[1]

    def test_safe(self):
        for program, placed in zip(self.programs, self.placed):
            self.assertIsNone(regions.check(placed))
            self.assertEqual(regions.erase(placed), program)
            self.assertEqual(place.build(program), placed)

    def test_early(self):
        seen = {}
        for placed in self.placed:
            for way, value in region_moves.earlier(placed):
                self.rejected(value)
                seen[way] = seen.get(way, 0) + 1
        self.assertEqual(sorted(seen), ["into", "out", "up"])
        self.assertGreater(min(seen.values()), 10)

    def test_late(self):
        moved = [value for placed in self.placed for value in region_moves.later(placed)]
        self.assertGreater(len(moved), 100)
        self.assertNotIn(None, moved)
        self.assertEqual({self.rejected(value) for value in moved}, {"scope"})

    def test_handed_on(self):
        reasons = [self.rejected(value) for placed in self.placed for value in region_moves.handed_on(placed)]
        self.assertEqual(set(reasons), {"mode"})

    def test_keepers(self):
        """At each place each region that is live there is touched by a step that can follow."""
        seen = 0
        for placed in self.placed[:len(TEXTS) + 1]:
            for where, live in region_moves.lives(placed).items():
                for region in live:
                    seen += 1
                    path = place.keeper(placed, where, region)
                    self.assertIsNotNone(path, (where, region))
        self.assertGreater(seen, 300)

    def test_results(self):
        for program, placed in zip(self.programs, self.placed):
            many = len(program[2][-1][3])
            for arguments in ((3, 4, 5), (0, 1, -1)):
                for fuel in (0, 2, 50):
                    wanted = flat.run(program, arguments[:many], fuel=fuel)
                    for value in (placed, place.coarse(program)):
                        result, _, left, _ = regions.run(value, arguments[:many], fuel=fuel)
                        self.assertEqual(result, wanted)
                        self.assertTrue(left == 0 or result[0] == ("fuel",))

    def test_not_worse_than_coarse(self):
        for program, placed in zip(self.programs, self.placed):
            arguments = (4, 2, 9)[:len(program[2][-1][3])]
            self.assertLessEqual(regions.run(placed, arguments)[1], regions.run(place.coarse(program), arguments)[1])


class WhereTest(unittest.TestCase):
    """Where regions begin and end, on programs for which there is one answer only."""

    def main_steps(self, body, before=""):
        """The ops of the main function's steps, with the regions of the new and end steps."""
        placed = found(f"{before}(fun main ((n int)) int {body})")
        return self.words(placed[2][-1][5])

    def words(self, inner):
        words = []
        for one in inner[1]:
            words.append(one[0] + (str(one[5]) if one[0] in ("new", "end") else ""))
            for each in one[7]:
                words.append(self.words(each))
        return words

    def test_straight(self):
        self.assertEqual(self.main_steps("(add 1 (get 0 (tuple n n)))"), ["int", "new0", "tuple", "get", "end0", "add"])
        self.assertEqual(self.main_steps("(let t (tuple n n) n)"), ["new0", "tuple", "end0"])

    def test_branches(self):
        """A region that is touched in one branch ends at the start of the other one."""
        self.assertEqual(self.main_steps("(let t (tuple n n) (if (less n 1) (get 0 t) 5))"), [
            "new0", "tuple", "int", "less", "if", ["get", "end0"], ["end0", "int"]])
        self.assertEqual(self.main_steps("(let t (tuple n n) (add (if (less n 1) 4 5) (get 0 t)))"), [
            "new0", "tuple", "int", "less", "if", ["int"], ["int"], "get", "end0", "add"])
        self.assertEqual(self.main_steps("(if (less n 1) (get 0 (tuple n n)) 5)"), [
            "int", "less", "if", ["new0", "tuple", "get", "end0"], ["int"]])

    def test_case(self):
        """A region that the case step itself touches last ends at the start of each of its blocks."""
        body = "(case (Cons n (Nil)) ((Nil) 0) ((Cons x y) x))"
        self.assertEqual(self.main_steps(body, LIST), ["new0", "make", "make", "case", ["end0", "int"], ["end0"]])
        body = "(case (B) ((A) 0) ((B) n))"
        self.assertEqual(self.main_steps(body, "(data d (A) (B)) "), ["new0", "end0", "make", "case", ["int"], []])

    def test_handle(self):
        self.assertEqual(self.main_steps("(let t (tuple n n) (handle (div (get 0 t) 0) (Div x 1)))"), [
            "new0", "tuple", "handle", ["get", "end0", "int", "div"], [], ["int"]])
        self.assertEqual(self.main_steps("(let t (tuple n n) (handle (div (get 0 t) 0) (Div x (get 1 t)) (Size x x)))"), [
            "new0", "tuple", "handle", ["get", "int", "div"], ["end0"], ["get", "end0"], ["end0"]])
        self.assertEqual(self.main_steps("(get 0 (handle (tuple n n) (Div x (raise Size (tuple int int) 2))))"), [
            "new0", "handle", ["tuple"], [], ["int", "raise"], "get", "end0"])

    def test_normal_arm(self):
        """The normal arm of a handle step may have steps, too."""
        arm = step("get", 5, INT, (4,), 0)
        handle = step("handle", 9, INT, (), (0,), blocks=(
            block((step("raise", 3, in_pair(0), (0,), 0),), 3), block((arm,), 5, (4,)), block((), 6, (6,))))
        placed = place.find(main_of((handle,), 9))
        self.assertIsNone(regions.check(placed))
        self.assertEqual(self.words(placed[2][0][5]), ["new0", "handle", ["raise"], ["get", "end0"], ["end0"]])
        # A tuple from outside that only the normal arm reads, and one that the body alone makes.
        reads = block((step("get", 5, INT, (1,), 0), step("get", 7, INT, (4,), 0)), 7, (4,))
        handle = step("handle", 9, INT, (), (0,), blocks=(block((pair(3, 0),), 3), reads, block((), 6, (6,))))
        placed = place.find(main_of((pair(1, 0), handle), 9))
        self.assertIsNone(regions.check(placed))
        self.assertEqual(self.words(placed[2][0][5]), [
            "new0", "tuple", "new1", "handle", ["tuple"], ["get", "end0", "get", "end1"], ["end0", "end1"]])
        self.assertEqual(placed[2][0][5][1][3][6], (0, 1))
        # What the body gives and nothing reads still has to be in scope behind it.
        handle = step("handle", 9, INT, (), (), blocks=(block((pair(3, 0),), 3), block((), 0, (4,))))
        placed = place.find(main_of((handle,), 9))
        self.assertIsNone(regions.check(placed))
        self.assertEqual(self.words(placed[2][0][5]), ["new0", "handle", ["tuple", "end0"], []])

    def test_closures(self):
        body = "(let f (fn (x int) (get 0 (tuple x n))) (add (apply f 1) n))"
        self.assertEqual(self.main_steps(body), [
            "new0", "fn", ["new1", "tuple", "get", "end1"], "int", "apply", "end0", "add"])

    def test_calls(self):
        use = "(fun use ((t (tuple int int))) int (get 0 t)) "
        placed = found(use + "(fun main ((n int)) int (let t (tuple n n) (sub (use t) (use t))))")
        self.assertEqual(self.words(placed[2][0][5]), ["get", "end0"])
        self.assertEqual(self.words(placed[2][1][5]), ["new0", "tuple", "call", "call", "sub"])
        self.assertEqual([one[6] for one in placed[2][1][5][1] if one[0] == "call"], [((0, "keep"),), ((0, "last"),)])

    def test_call_with_a_region_twice(self):
        use = "(fun use ((t (tuple int int)) (u (tuple int int))) int (add (get 0 t) (get 0 u))) "
        placed = found(use + "(fun main ((n int)) int (let t (tuple n n) (use t t)))")
        self.assertEqual(self.words(placed[2][1][5]), ["new0", "tuple", "call", "end0"])
        self.assertEqual(placed[2][1][5][1][2][6], ((0, "keep"), (0, "keep")))

    def test_touched_before_it_is_handed_to_nothing(self):
        """A formal that the callee does not touch is given none, and the region ends before the call."""
        idle = "(fun idle ((t (tuple int int))) int 4) "
        placed = found(idle + "(fun main ((n int)) int (idle (tuple n n)))")
        self.assertEqual(placed[2][0][1:3], (1, ()))
        self.assertEqual(self.words(placed[2][1][5]), ["new0", "tuple", "end0", "call"])
        self.assertEqual(placed[2][1][5][1][3][6], ((0, "none"),))

    def test_result(self):
        """A result lies in a formal, which the function gives up at its last touch."""
        placed = found("(fun both ((n int)) (tuple int int) (tuple n n)) (fun main ((n int)) int (get 0 (both n)))")
        self.assertEqual(placed[2][0], ("both", 1, (0,), (INT,), in_pair(0), block((pair(1, 0), end(0)), 1)))
        self.assertEqual(self.words(placed[2][1][5]), ["new0", "call", "get", "end0"])

    def test_nothing_touched(self):
        """A region that is only named begins and ends at once."""
        placed = place.find(main_of((step("raise", 1, in_pair(0), (0,), 0),), 0))
        self.assertEqual(placed, main_of((new(0), end(0), step("raise", 1, in_pair(0), (0,), 0)), 0))


class FineTest(unittest.TestCase):
    """Cells share a region only if they must."""

    def check_apart(self, text, number, many):
        """Check how many regions the cells of a function lie in."""
        placed = found(text)
        self.assertIsNone(regions.check(placed))
        self.assertEqual(len(set(cells(placed, number).values())), many)
        return placed

    def test_apart(self):
        self.check_apart("(fun main ((n int)) int (add (get 0 (tuple n n)) (get 0 (tuple 1 n))))", 0, 2)
        self.check_apart("(fun main ((n int)) int (get 0 (get 1 (tuple n (tuple n n)))))", 0, 2)
        self.check_apart("(fun main ((n int)) int (deref (get 0 (tuple (ref n) (ref 1)))))", 0, 3)
        self.check_apart("(fun main ((n int)) int (let r (ref (ref n)) (deref (deref r))))", 0, 2)
        self.check_apart("(fun main ((n int)) int (let f (fn (x int) (get 0 (tuple x x))) (apply f n)))", 0, 2)

    def test_together(self):
        self.check_apart("(fun main ((n int)) int (get 0 (if (less n 1) (tuple n 1) (tuple 1 n))))", 0, 1)
        self.check_apart("(fun main ((n int)) int (let r (ref (tuple n n)) (seq (set r (tuple 1 2)) 3)))", 0, 2)
        self.check_apart("(fun main ((n int)) int (let a (array 2 (ref n)) (seq (put a 0 (ref 3)) 4)))", 0, 2)
        self.check_apart(LIST + "(fun main ((n int)) int (case (Cons 1 (Cons 2 (Nil))) ((Nil) 0) ((Cons x y) x)))", 0, 1)
        self.check_apart("(data d (D (ref (tuple int int)))) (fun main ((n int)) int "
                         "(case (D (ref (tuple n n))) ((D r) (get 0 (deref r)))))", 0, 1)
        self.check_apart("(fun main ((n int)) int (get 0 (handle (tuple n n) (Div x (tuple x x)) (Size x (tuple 1 x)))))",
                         0, 1)

    def test_closures(self):
        """What a closure touches and does not begin lies in its own region."""
        self.check_apart("(fun main ((n int)) int (let t (tuple n n) (let f (fn (x int) (get 0 t)) (apply f 1))))", 0, 1)
        self.check_apart("(fun main ((n int)) int (let t (tuple n n) (let f (fn (x int) (let u t x)) (apply f 1))))", 0, 2)
        self.check_apart("(fun main ((n int)) int (get 0 (apply (fn (x int) (tuple x x)) n)))", 0, 1)
        self.check_apart("(fun main ((n int)) int (let f (fn (t (tuple int int)) n) (apply f (tuple 1 2))))", 0, 2)
        self.check_apart("(fun main ((n int)) int (let f (fn (t (tuple int int)) (get 0 t)) (apply f (tuple 1 2))))", 0, 1)
        # A call in a closure touches what the callee touches.
        self.check_apart("(fun use ((t (tuple int int)) (u (tuple int int))) int (get 0 t)) (fun main ((n int)) int "
                         "(let t (tuple n n) (let u (tuple n n) (apply (fn (x int) (use t u)) n))))", 1, 2)

    def test_inner_closures(self):
        text = ("(fun main ((n int)) int (let f (fn (x int) (let t (tuple x x) (let g (fn (y int) (get 0 t)) "
                "(add (apply g 1) (get 0 (tuple y y)))))) (apply f n)))").replace("(tuple y y)", "(tuple x x)")
        placed = self.check_apart(text, 0, 3)
        self.assertEqual(len(cells(placed, 0)), 4)

    def test_closures_in_closures_one_after_another(self):
        """What the inner closure reads lies in one region, and thereby the outer one makes cells in its own."""
        self.check_apart("(fun main ((n int)) int (let t (tuple n n) (let f (fn (x int) (let s (tuple x x) "
                         "(let g (fn (y int) (add (get 0 s) (get 0 t))) x))) n)))", 0, 1)

    def test_own_calls_in_closures(self):
        placed = self.check_apart(TEXTS[-1], 0, 1)
        self.assertEqual((placed[2][0][1:3], cells(placed, 0)), ((1, (0,)), {9: 0}))

    def test_formals_that_are_not_touched(self):
        """They stay apart, so that the callers' regions do."""
        self.check_apart("(fun idle ((t (tuple int int)) (u (tuple int int))) int 4) "
                         "(fun main ((n int)) int (idle (tuple 1 2) (tuple 3 4)))", 1, 2)

    def test_calls(self):
        """Each call has regions of its own, also that of the function itself."""
        text = "(fun use ((t (tuple int int)) (u (tuple int int))) int (add (get 0 t) (get 0 u))) "
        self.check_apart(text + "(fun main ((n int)) int (let t (tuple n n) (add (use t t) (use (tuple 1 2) (tuple 3 4)))))",
                         1, 3)
        self.check_apart("(fun f ((t (tuple int int)) (n int)) int (if (less n 1) (get 0 t) (f (tuple n n) (sub n 1)))) "
                         "(fun main ((n int)) int (f (tuple n n) n))", 0, 1)
        placed = found("(fun f ((t (tuple int int)) (u (tuple int int)) (n int)) int (if (less n 1) (get 0 t) "
                       "(f (tuple n n) (tuple n 1) (sub n 1)))) (fun main ((n int)) int (f (tuple n n) (tuple 1 n) n))")
        self.assertEqual(placed[2][0][1:3], (2, (0,)))
        self.assertEqual(sorted(cells(placed, 0).values()), [2, 3])

    def test_results_of_own_calls(self):
        """Both parameters flow into the result of the inner call, but only the first one into the function's own."""
        placed = found("(fun f ((a (tuple int int)) (b (tuple int int)) (n int)) (tuple int int) "
                       "(if (less n 1) a (let c (f b b (sub n 1)) (tuple (get 0 c) 1)))) "
                       "(fun main ((n int)) int (get 0 (f (tuple n n) (tuple 1 1) n)))")
        self.assertIsNone(regions.check(placed))
        self.assertEqual([kind[2] for kind in placed[2][0][3][:2]] + [placed[2][0][4][2]], [0, 1, 0])

    def test_own_calls_join_formals(self):
        placed = found("(fun swap ((a (ref int)) (b (ref int)) (n int)) (ref int) (if (less n 1) a (swap b a (sub n 1)))) "
                       "(fun main ((n int)) int (deref (swap (ref 1) (ref 2) n)))")
        self.assertEqual(placed[2][0][1:3], (1, ()))
        placed = found("(fun swap ((a (ref int)) (b (ref int)) (n int)) int (if (less n 1) (deref a) (swap b a (sub n 1)))) "
                       "(fun main ((n int)) int (swap (ref 1) (ref 2) n))")
        self.assertEqual(placed[2][0][1:3], (2, (0, 1)))

    def test_own_calls_join_formals_step_by_step(self):
        """Two formals are equal at once, and with them, call by call, all four."""
        parameters = " ".join(f"({name} (ref int))" for name in "abcd")
        for before in ("", "(fun first ((n int)) int n) "):
            for order in ("d a b c", "b c d a"):
                placed = found(f"{before}(fun f ({parameters} (n int)) int (if (less n 1) (deref (if (less n 0) c d)) "
                               f"(f {order} (sub n 1)))) (fun main ((n int)) int (f (ref 1) (ref 2) (ref 3) (ref 4) n))")
                self.assertIsNone(regions.check(placed))
                self.assertEqual(placed[2][-2][1:3], (1, (0,)))

    def test_other_choices(self):
        """Programs with other regions that the check accepts never separate what is found together."""
        for program, other in self.choices():
            placed = place.find(program)
            self.assertIsNone(regions.check(other))
            self.assertEqual(regions.erase(other), program)
            for number in range(len(program[2])):
                mine, theirs = cells(placed, number), cells(other, number)
                for one in mine:
                    for two in mine:
                        if mine[one] == mine[two]:
                            self.assertEqual(theirs[one], theirs[two])

    def choices(self):
        straight = main_of((pair(1, 0), pair(2, 0), step("get", 3, INT, (1,), 0), step("get", 4, INT, (2,), 0)), 4)
        yield straight, main_of((new(5), new(6), pair(1, 5), pair(2, 6), step("get", 3, INT, (1,), 0), end(5),
                                 step("get", 4, INT, (2,), 0), end(6)), 4)
        kind = ("fn", (INT, INT), 0)
        inner = block((pair(3, 0, 2, 2), step("get", 4, INT, (3,), 0)), 4, (2,))
        closure = main_of((pair(1, 0), step("fn", 5, kind, blocks=(inner,))), 0)
        apart = block((new(9), pair(3, 9, 2, 2), step("get", 4, INT, (3,), 0), end(9)), 4, (2,))
        yield closure, main_of((new(7), pair(1, 7), end(7), new(8), step("fn", 5, kind[:2] + (8,), region=8,
                                                                        blocks=(apart,)), end(8)), 0)
        for text in TEXTS:
            program = flattened(text)
            yield program, place.coarse(program)


class SpaceTest(unittest.TestCase):
    """A loop that makes a new tuple from integers in each round holds no more in a hundred rounds than in two."""

    LOOPS = (
        "(fun loop ((t (tuple int int))) int (if (less (get 0 t) 1) (get 1 t) "
        "(loop (tuple (sub (get 0 t) 1) (add (get 1 t) 2)))))",
        "(fun loop ((t (tuple int int)) (m int)) int (if (less (get 0 t) 1) m "
        "(let k (sub (get 0 t) 1) (loop (tuple k k) (add m 1)))))",
        "(fun loop ((t (tuple int int)) (u (tuple int int int))) int (if (less (get 0 t) 1) (get 2 u) "
        "(let k (get 0 t) (let j (get 1 u) (loop (tuple (sub k 1) j) (tuple 1 k j))))))",
        "(fun loop ((t (tuple int (tuple int int)))) int (if (less (get 0 t) 1) (get 0 (get 1 t)) "
        "(let k (get 0 t) (loop (tuple (sub k 1) (tuple k k))))))",
        "(data d (A) (B int)) (fun loop ((n int) (x d)) int (if (less n 1) 3 "
        "(case x ((A) (loop (sub n 1) (B n))) ((B k) (loop (sub n 1) (B k))))))",
        "(data list (Nil) (Cons int list)) (fun loop ((n int) (x list) (r (ref int)) (a (array int))) int (if (less n 1) "
        "(deref r) (case x ((Nil) n) ((Cons k rest) (loop (sub k 1) (Cons (sub k 1) (Cons 2 (Nil))) (ref k) (array 0 n))))))",
        "(fun loop ((n int) (t (tuple int int))) int (if (less n 1) 3 (loop (sub n 1) (tuple n n))))",
    )
    STARTS = ("(loop (tuple n 7))", "(loop (tuple n 7) 4)", "(loop (tuple n 7) (tuple 1 2 3))",
              "(loop (tuple n (tuple 1 2)))", "(loop n (A))", "(loop n (Cons n (Nil)) (ref 1) (array 0 5))",
              "(loop n (tuple 1 2))")

    def test_loops(self):
        for loop, start in zip(self.LOOPS, self.STARTS, strict=True):
            value = flattened(f"{loop} (fun main ((n int)) int {start})")
            with self.subTest(start):
                peaks = {}
                for many in (2, 3, 100):
                    result, peaks[many], left, _ = regions.run(place.find(value), (many,))
                    self.assertEqual((result[0], left), (None, 0))
                    self.assertGreaterEqual(result[3], many)
                self.assertEqual(peaks[100], peaks[2])
                self.assertGreater(regions.run(place.coarse(value), (100,))[1], 100)

    def test_bool_loop(self):
        text = ("(fun loop ((t (tuple int bool))) int (if (get 1 t) (get 0 t) (loop (tuple (sub (get 0 t) 1) "
                "(less (get 0 t) 2))))) (fun main ((n int)) int (loop (tuple n false)))")
        value = found(text)
        self.assertEqual(regions.run(value, (2,))[1], regions.run(value, (100,))[1])


class LimitTest(unittest.TestCase):
    def accept(self, value):
        placed = place.find(value)
        self.assertIsNone(flat_fault(value))
        self.assertIsNone(regions.check(placed))
        self.assertEqual(regions.erase(placed), value)
        self.assertEqual(place.build(value), placed)
        return placed

    def test_many_regions(self):
        for many in (63, 64, 65, 200):
            steps = tuple(pair(1 + at, 0) for at in range(many))
            steps += tuple(step("get", 1000 + at, INT, (1 + at,), 0) for at in range(many))
            placed = self.accept(main_of(steps, 0))
            if many > 64:
                self.assertEqual(placed, place.coarse(main_of(steps, 0)))
            else:
                self.assertEqual(len(set(cells(placed, 0).values())), many)

    def test_many_formals(self):
        kind = ("tuple", (("ref", (INT,), 0),) * 6, 0)
        wide = ("tuple", (kind, ("tuple", (("ref", (INT,), 0),) * 3, 0)), 0)
        for many, formals in ((5, 60), (6, 1)):
            value = program(function((number(many),), many, kinds=(wide,) * many), function((), 0, name="main", kinds=(INT,)))
            self.assertEqual(self.accept(value)[2][0][1], formals)

    def test_many_unused_regions(self):
        """What is never touched takes one region, however often it is named."""
        steps = tuple(step("raise", 1 + at, ("ref", (in_pair(0),), 0), (0,), 0) for at in range(300))
        placed = self.accept(main_of(steps, 0))
        self.assertEqual(placed[2][0][5][1][:2], (new(0), end(0)))
        self.assertEqual(len(placed[2][0][5][1]), 302)

    def test_unused_regions_in_several_blocks(self):
        raised = "(if (less n 0) (get 0 (tuple (raise Div int 1) 2)) (seq (raise Div (tuple int int) n) 1))"
        self.accept(flattened(f"(fun main ((n int)) int (add {raised} (add {raised} {raised})))"))
        flag = step("bool", 1, ("bool", (), 0), (), True)
        branches = [step("if", 10 + at, INT, (1,), blocks=(block((step("raise", 20 + at, in_pair(0), (0,), 0),), 0),
                                                          block((), 0))) for at in range(3)]
        placed = self.accept(main_of((flag, *branches), 0))
        self.assertEqual([one[0] for one in placed[2][0][5][1]], ["bool", "new", "end", "if", "if", "if"])

    def test_largest_program(self):
        kind = ("tuple", (("tuple", (INT,) * 6, 0),) * 4 + (("ref", (INT,), 0),), 0)
        steps = tuple(step("raise", 1 + at, kind, (0,), 0) for at in range(600))
        steps += tuple(step("get", 1000 + at, INT, (1,), 4) for at in range(600))
        steps = tuple(replace(one, (2,), ("ref", (INT,), 0)) if one[0] == "get" else one for one in steps)
        self.accept(main_of(steps, 0))


class CoarseTest(unittest.TestCase):
    def test_functions(self):
        value = flattened("(fun f ((n int)) (tuple int int) (tuple n n)) (fun g () int 4) (fun main ((n int)) int "
                          "(if (less n 1) (get 0 (f (g))) (main 0)))")
        keep = ((0, "keep"),)
        coarse = place.coarse(value)
        self.assertEqual(coarse[:2], value[:2])
        self.assertEqual(coarse[2][0], ("f", 1, (0,), (INT,), in_pair(0), block((pair(1, 0), end(0)), 1)))
        self.assertEqual(coarse[2][1], ("g", 1, (0,), (), INT, block((number(0, 4), end(0)), 0)))
        call_f, call_g = step("call", 4, in_pair(0), (3,), 0, use=keep), step("call", 3, INT, (), 1, use=keep)
        branches = (block((call_g, call_f, step("get", 5, INT, (4,), 0)), 5),
                    block((number(6, 0), step("call", 7, INT, (6,), 2)), 7))
        steps = (new(0), number(1), step("less", 2, ("bool", (), 0), (0, 1)), step("if", 8, INT, (2,), blocks=branches),
                 end(0))
        self.assertEqual(coarse[2][2], ("main", 0, (), (INT,), INT, block(steps, 8)))

    def test_handles(self):
        inner = "(handle (handle 1 (Div x 2)) (Div y 3))"
        coarse = place.coarse(flattened(f"(fun main ((n int)) int (add {inner} (apply (fn (z int) {inner}) n)))"))
        uses = {}
        for path in region_moves.blocks_of(coarse):
            for index, one in enumerate(region_moves.steps_at(coarse, path)):
                if one[0] == "handle":
                    uses[path + (index,)] = one[6]
        self.assertEqual(sorted(uses.values()), [(), (), (0,), (0,)])
        self.assertEqual({use for path, use in uses.items() if path[1] == 1}, {(0,)})

    def test_accepted(self):
        for value in [flattened(text) for text in TEXTS] + list(random_programs(range(700, 730))):
            coarse = place.coarse(value)
            self.assertIsNone(regions.check(coarse))
            self.assertEqual(regions.erase(coarse), value)
            for path in region_moves.blocks_of(coarse):
                for one in region_moves.steps_at(coarse, path):
                    self.assertEqual(one[5], 0)


class BuildTest(unittest.TestCase):
    """build trusts nothing of find."""

    VALUE = flattened(TEXTS[2])

    def test_other_answers(self):
        other = place.find(flattened(TEXTS[1]))
        unsafe = replace(place.find(self.VALUE), (2, 0, 5, 1), place.find(self.VALUE)[2][0][5][1][1:])
        for answer in (None, (), 5, "text", other, unsafe, self.VALUE, place.coarse(flattened(TEXTS[0]))):
            with mock.patch.object(place, "find", lambda program: answer):
                self.assertEqual(place.build(self.VALUE), place.coarse(self.VALUE))

    def test_safe_answer(self):
        coarse = place.coarse(self.VALUE)
        longer = replace(coarse, (2, 0, 5, 1), (new(9), end(9)) + coarse[2][0][5][1])
        with mock.patch.object(place, "find", lambda program: longer):
            self.assertEqual(place.build(self.VALUE), longer)

    def test_wrong_programs(self):
        for value, path in ((None, ()), ((), ()), (main_of((number(1, "x"),), 0), (0, 0)), (main_of((), 9), (0,)),
                            (place.find(self.VALUE), ())):
            for judge in (place.find, place.coarse, place.build):
                with self.assertRaises(FlatError) as caught:
                    judge(value)
                self.assertEqual(caught.exception.path, path)

    def test_arguments_are_not_changed(self):
        for text in TEXTS:
            value = flattened(text)
            place.build(value)
            self.assertEqual(value, flattened(text))
            self.assertEqual(place.find(value), place.find(flattened(text)))

    def test_unit(self):
        self.assertEqual(place.build(main_of((step("print", 1, UNIT, (0,)),), 0)), main_of((step("print", 1, UNIT, (0,)),), 0))


if __name__ == "__main__":
    unittest.main()
