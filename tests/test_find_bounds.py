"""Certificates that are found: they are accepted, and no run holds more than they state."""

import random
import unittest

from escheat import bounds, flat, machine, place, regions
from escheat.errors import CertificateError, KindError
from escheat.kinds import with_kinds
from tests import bound_reference
from tests.certificates import fault, lowered, wanted_fault, with_number
from tests.helpers import INT
from tests.programs import block, end, flattened, function, in_pair, main_of, new, number, pair, program, step
from tests.random_steps import with_more_steps
from tests.random_trees import Maker

LISTS = "(data list (Nil) (Cons int list)) "
TREES = "(data tree (Leaf) (Node tree int tree)) "
BUILD = LISTS + "(fun build ((n int)) list (if (less 0 n) (Cons n (build (sub n 1))) (Nil))) "
LENGTH = "(fun length ((xs list)) int (case xs ((Nil) 0) ((Cons x rest) (add 1 (length rest))))) "
SUM = "(fun sum ((xs list)) int (case xs ((Nil) 0) ((Cons x rest) (add x (sum rest))))) "
MAP = "(fun double ((xs list)) list (case xs ((Nil) (Nil)) ((Cons x rest) (Cons (mul 2 x) (double rest))))) "
APPEND = "(fun append ((xs list) (ys list)) list (case xs ((Nil) ys) ((Cons x rest) (Cons x (append rest ys))))) "
ONTO = "(fun onto ((xs list) (ys list)) list (case xs ((Nil) ys) ((Cons x rest) (onto rest (Cons x ys))))) "
COUNT = "(fun count ((n int) (t (tuple int int))) int (if (less n 1) (get 0 t) (count (sub n 1) (tuple n (get 1 t))))) "
GROW = "(fun grow ((n int)) tree (if (less 0 n) (Node (Leaf) n (grow (sub n 1))) (Leaf))) "
MIRROR = "(fun mirror ((t tree)) tree (case t ((Leaf) (Leaf)) ((Node a x b) (Node (mirror b) x (mirror a))))) "
TOTAL = "(fun total ((t tree)) int (case t ((Leaf) 0) ((Node a x b) (add x (add (total a) (total b)))))) "

# Texts for which the method succeeds, with the words that a run holds for each of the arguments 0, 1, 2 and 5.
FOUND = (
    ("(fun main ((n int)) int n)", (0, 0, 0, 0)),
    ("(fun main ((n int)) int (get 0 (tuple n n)))", (2, 2, 2, 2)),
    ("(fun main ((n int)) int (len (array n 7)))", (1, 2, 3, 6)),
    ("(fun main ((n int)) int (len (array (add 2 3) 7)))", (6, 6, 6, 6)),
    ("(fun main ((n int)) int (if (less 0 n) (get 0 (tuple n n)) (get 0 (get 1 (tuple n (tuple n n))))))", (4, 2, 2, 2)),
    (BUILD + LENGTH + "(fun main ((n int)) int (length (build n)))", (0, 3, 6, 15)),
    (BUILD + SUM + MAP + "(fun main ((n int)) int (sum (double (build n))))", (0, 3, 6, 15)),
    (BUILD + SUM + APPEND + "(fun main ((n int)) int (sum (append (build n) (build 3))))", (9, 12, 15, 24)),
    (BUILD + SUM + ONTO + "(fun main ((n int)) int (sum (onto (build n) (Nil))))", (0, 6, 12, 30)),
    (COUNT + "(fun main ((n int)) int (count n (tuple n 3)))", (2, 2, 2, 2)),
    (TREES + GROW + TOTAL + "(fun main ((n int)) int (total (grow n)))", (0, 4, 8, 20)),
    (TREES + GROW + MIRROR + TOTAL + "(fun main ((n int)) int (total (mirror (grow n))))", (0, 4, 12, 36)),
    ("(fun f ((n int)) int (if (less n 1) 0 (add (get 0 (tuple n n)) (f (sub n 1))))) (fun main ((n int)) int (f n))", (0, 2, 2, 2)),
    ("(fun f ((n int)) int (if (less n 1) 0 (let t (tuple n n) (add (f (sub n 1)) (get 0 t))))) (fun main ((n int)) int (f n))",
     (0, 2, 4, 10)),
    ("(fun main ((n int)) int (if (less n 1) n (main (sub n 1))))", (0, 0, 0, 0)),
    ("(fun main ((n int)) int (handle (let t (tuple n 1) (div (get 0 t) 0)) (Div x (get 0 (tuple x x)))))", (2, 2, 2, 2)),
    ("(exception no) (fun f ((n int)) int (if (less n 1) (raise no int n) (let t (tuple n n) (add (f (sub n 1)) (get 0 t))))) "
     "(fun main ((n int)) int (handle (f n) (no x x)))", (0, 2, 4, 10)),
    ("(fun main ((n int)) int (let f (fn (x int) (add x n)) 5))", (3, 3, 3, 3)),
    ("(fun swap ((n int) (a (ref int)) (b (ref int))) int (if (less n 1) (deref a) (swap (sub n 1) b a))) "
     "(fun main ((n int)) int (swap n (ref 1) (ref 2)))", (2, 2, 2, 2)),
    (LISTS + "(fun main ((n int)) int (case (Cons n (Cons 2 (Nil))) ((Nil) 0) ((Cons x xs) (case xs ((Nil) 1) ((Cons y ys) y)))))",
     (6, 6, 6, 6)),
    (BUILD + SUM + MAP + "(fun rest ((xs list)) list (case xs ((Nil) (Nil)) ((Cons x r) (double r)))) "
     "(fun main ((n int)) int (sum (rest (build n))))", (0, 3, 6, 15)),
    (BUILD + "(fun f ((n int) (xs list)) int (if (less n 1) 0 (case xs ((Nil) n) ((Cons x r) (let t (tuple x n) (add (f n r) (get 0 t))))))) "
     "(fun main ((n int)) int (f n (build n)))", (0, 5, 10, 25)),
    ("(fun g ((n int) (t (tuple int int))) int (add (get 0 t) n)) (fun main ((n int) (m int)) int (add (g n (tuple n m)) (g m (tuple m n))))",
     (2, 2, 2, 2)),
)

# Texts for which there are no certificates, or none that the method finds.
NOT_FOUND = (
    "(fun main ((n int)) int (apply (fn (x int) x) n))",
    "(fun f ((n int)) int (let t (tuple n n) (add (f (add n 1)) (get 0 t)))) (fun main ((n int)) int (f n))",
    BUILD + LENGTH + "(fun main ((n int)) int (length (build (div n 2))))",
    LISTS + "(fun both ((n int)) list (if (less 0 n) (let xs (both (sub n 1)) (Cons n xs)) (Nil))) " + APPEND
    + "(fun twice ((n int)) list (if (less 0 n) (let xs (twice (sub n 1)) (append xs xs)) (Cons 1 (Nil)))) " + SUM
    + "(fun main ((n int)) int (sum (twice n)))",
    "(fun f ((n int)) int (let t (tuple n n) (add (f n) (get 0 t)))) (fun main ((n int)) int (f n))",
)


def failure(value):
    """The number and the reason of the CertificateError that find raises, or None."""
    try:
        bounds.find(value)
    except CertificateError as error:
        return (error.number, error.reason)
    return None


class FoundTest(unittest.TestCase):
    def check(self, value, arguments=((3, 4, 5), (0, 1, -1), (-7, 12, 30), (2 ** 31 - 1, -2 ** 31, 7))):
        """Check what is found for a region program against accept, the reference and runs."""
        found = bounds.find(value)
        self.assertEqual((fault(value, found), wanted_fault(value, found)), (None, None))
        self.assertEqual(found, bounds.find(value))
        self.check_runs(value, found, arguments)
        return found

    def check_runs(self, value, certificates, arguments):
        code = machine.translate(value)
        many = len(value[2][-1][3])
        for given in arguments:
            most = bounds.bound(value, certificates, given[:many])
            for fuel in (0, 3, 20, 200):
                run = machine.run(code, given[:many], fuel=fuel)
                self.assertEqual(run, regions.run(value, given[:many], fuel=fuel))
                self.assertLessEqual(run[1], most)


class TextsTest(FoundTest):
    def test_found(self):
        for text, needs in FOUND:
            value = place.build(flattened(text))
            with self.subTest(text):
                many = len(value[2][-1][3])
                found = self.check(value)
                for argument, need in zip((0, 1, 2, 5), needs):
                    peak = regions.run(value, (argument,) * many)[1]
                    self.assertEqual(peak, need)
                    self.assertGreaterEqual(bounds.bound(value, found, (argument,) * many), need)

    def test_found_for_one_region(self):
        """With one region the last step of a body is an end, so that no step is final: some sizes are not found then."""
        found = [value for value in [place.coarse(flattened(text)) for text, _ in FOUND] if failure(value) is None]
        self.assertGreater(len(found), 12)
        for value in found:
            self.check(value)

    def test_not_found(self):
        for text in NOT_FOUND:
            for value in (place.build(flattened(text)), place.coarse(flattened(text))):
                self.assertEqual(failure(value), (-1, "none"), text)

    def test_only_goals(self):
        """Main, and what is called outside of closures, with the regions that are taken."""
        found = self.check(place.build(flattened(BUILD + LENGTH + "(fun main ((n int)) int (length (build n)))")))
        self.assertEqual(sorted(one[:2] for one in found), [(0, ()), (1, (0,)), (2, ())])
        unused = "(fun f ((n int)) int (apply (fn (x int) x) n)) (fun main ((n int)) int n)"
        self.assertEqual(len(self.check(place.build(flattened(unused)))), 1)
        unused = unused.replace("int n)", "int (let g (fn (x int) (f x)) n))")
        self.assertEqual(len(self.check(place.build(flattened(unused)))), 1)

    def test_what_the_method_finds(self):
        """Where there is no recursion, the numbers are just those that are needed."""
        self.assertEqual(bounds.find(place.build(flattened(FOUND[1][0]))), ((0, (), (2, 0), (), None),))
        found = dict((one[:2], one[2:]) for one in bounds.find(place.build(flattened(FOUND[2][0]))))
        self.assertEqual(found[0, ()], ((1, 1), (), (0, 1)))


class HandMadeTest(FoundTest):
    def test_several_ways_to_take(self):
        """One function with several sets of owned regions, each of which is a goal."""
        callee = function((end(0), end(1)), 0, name="g", kinds=(INT,), formals=2, touch=(0, 1))
        uses = (("keep", "keep"), ("last", "keep"), ("keep", "last"), ("last", "last"))
        rows, after = [], []
        for at, (first, second) in enumerate(uses):
            one, other = 10 + 2 * at, 11 + 2 * at
            rows += [new(one), new(other), pair(20 + at, one), step("call", 30 + at, INT, (0,), 0, use=((one, first), (other, second)))]
            after += [end(region) for region, mode in ((one, first), (other, second)) if mode == "keep"]
        value = program(callee, function((*rows, *after), 0, name="main", kinds=(INT,)))
        found = self.check(value)
        self.assertEqual(sorted(one[:2] for one in found), [(0, ()), (0, (0,)), (0, (0, 1)), (0, (1,)), (1, ())])

    def test_recursion_that_takes(self):
        """Each call owns the region of its pair, and gives it back before the next one is made."""
        rows = (number(2, 1), step("less", 3, ("bool", (), 0), (0, 2)))
        again = (number(4, 1), step("sub", 5, INT, (0, 4)), step("get", 6, INT, (1,), 0), end(0), new(9), pair(7, 9, 6, 6),
                 step("call", 8, INT, (5, 7), 0, use=((9, "last"),)))
        test = step("if", 10, INT, (3,), blocks=(block((end(0),), 0), block(again, 8)))
        loop = function((*rows, test), 10, name="loop", kinds=(INT, in_pair(0)), formals=1, touch=(0,))
        main = function((new(1), pair(1, 1), step("call", 2, INT, (0, 1), 0, use=((1, "last"),))), 2, name="main", kinds=(INT,))
        value = program(loop, main)
        found = self.check(value)
        self.assertEqual(sorted(one[:2] for one in found), [(0, (0,)), (1, ())])
        self.assertEqual(regions.run(value, (100,))[1], 2)

    def test_great_numbers(self):
        """A number that would be too great is not found."""
        for factor, wanted in ((10 ** 6 - 1, None), (10 ** 6, (-1, "none"))):
            rows = (number(1, 10 ** 6), number(2, factor), step("mul", 3, INT, (1, 2)), new(0),
                    step("array", 4, ("array", (INT,), 0), (3, 0), region=0), end(0))
            self.assertEqual(failure(main_of(rows, 0)), wanted)

    def test_great_coefficients(self):
        """A claim that would have to be too great is not found either."""
        text = "(fun f ((n int)) int (len (array n 0))) (fun g ((n int)) int (if (less 0 n) (f (mul 1000000 n)) 0)) "
        text += "(fun h ((n int)) int (if (less 0 n) (g (mul 100000 n)) 0)) (fun main ((n int)) int (if (less 0 n) (h (mul {} n)) 0))"
        for factor in (1, 4):
            found = self.check(place.build(flattened(text.format(factor))))
            self.assertGreaterEqual(found[-1][2][1], factor * 10 ** 11)
        for factor in (10, 100, 2 ** 31 - 1):
            self.assertEqual(failure(place.build(flattened(text.format(factor)))), (-1, "none"))
        for argument, wanted in ((1, None), (9, None), (10, (-1, "none")), (100, (-1, "none"))):
            only = text.replace("(if (less 0 n) (h (mul {} n)) 0)", f"(h {argument})")
            self.assertEqual(failure(place.build(flattened(only))), wanted)


class RandomTest(FoundTest):
    """Random programs, and random changes of what is found for them, against the reference and against runs."""

    def programs(self, seeds):
        for seed in seeds:
            try:
                value = flat.flatten(with_kinds(Plain(seed).tree()))
            except KindError:
                continue
            value = with_more_steps(value, random.Random(seed), 0.2) if seed % 2 else value
            yield seed, place.build(value) if seed % 3 else place.coarse(value)

    def test_found(self):
        count = 0
        for _, value in self.programs(range(150)):
            if failure(value) is None:
                count += 1
                self.check(value, ((3, 4, 5), (0, -1, 12)))
        self.assertGreater(count, 60)

    def test_changed(self):
        answers = {True: 0, False: 0}
        for seed, value in self.programs(range(200, 240)):
            if failure(value) is not None:
                continue
            chance = random.Random(seed)
            found = bounds.find(value)
            tries = list(lowered(found))
            for _ in range(10):
                index = chance.randrange(len(found))
                one = found[index]
                for _ in range(chance.randint(1, 4)):
                    one = with_number(one, (2,), chance.randrange(len(one[2])), chance.randint(0, 3))
                tries.append(found[:index] + (one[:4] + (None,) if chance.random() < 0.3 else one,) + found[index + 1:])
            for changed in chance.sample(tries, min(12, len(tries))):
                self.assertEqual(fault(value, changed), wanted_fault(value, changed))
                answers[fault(value, changed) is None] += 1
                if fault(value, changed) is None:
                    self.check_runs(value, changed, ((3, 4, 5), (0, 1, -1)))
        self.assertGreater(min(answers.values()), 60)


class Plain(Maker):
    """Random trees of which most have certificates: closures are not called, and calls count down."""

    def kind(self, depth):
        found = super().kind(depth)
        while found[0] in ("fn", "data"):
            found = super().kind(depth)
        return found

    def apply(self, kind, scope, depth):
        return None

    def case(self, kind, scope, depth):
        return None


if __name__ == "__main__":
    unittest.main()
