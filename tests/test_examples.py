"""The examples of the interface for the stage's modules, word for word, and those in the points."""

import unittest

from escheat import flat, place, plain, regions
from escheat.errors import EscheatError, RegionError
from escheat.kinds import with_kinds
from escheat.words import read_program

INT = ("int", (), 0)
PAIR = ("tuple", (INT, INT), 0)
UNIT = ("unit", (), 0)


class PlainExampleTest(unittest.TestCase):
    def test_division(self):
        tree = with_kinds(read_program("(fun main ((n int)) int (div n 0))"))
        self.assertEqual(plain.run(tree, [5], fuel=3), (("raised", "Div", 0), 0, (), 0))


class FlatExampleTest(unittest.TestCase):
    def test_run(self):
        step = ("add", 1, INT, (0, 0), None, 0, (), ())
        main = ("main", 0, (), (INT,), INT, ((), (step,), 1))
        self.assertEqual(flat.run(((), ("Div", "Index", "Size"), (main,)), (21,), fuel=5), (None, 42, (), 0))

    def test_flat_form(self):
        body = "(let x (add n 1) (if (less x 3) x (mul x x)))"
        program = flat.flatten(with_kinds(read_program(f"(fun main ((n int)) int {body})")))
        bind, steps, value = program[2][0][5]
        self.assertEqual((bind, value), ((), 6))
        self.assertEqual(steps, (
            ("int", 1, INT, (), 1, 0, (), ()),
            ("add", 2, INT, (0, 1), None, 0, (), ()),
            ("int", 3, INT, (), 3, 0, (), ()),
            ("less", 4, ("bool", (), 0), (2, 3), None, 0, (), ()),
            ("if", 6, INT, (4,), None, 0, (), (
                ((), (), 2),
                ((), (("mul", 5, INT, (2, 2), None, 0, (), ()),), 5),
            )),
        ))


class RegionExampleTest(unittest.TestCase):
    new = ("new", -1, UNIT, (), None, 0, (), ())
    pair = ("tuple", 1, PAIR, (0, 0), None, 0, (), ())
    get = ("get", 2, INT, (1,), 0, 0, (), ())
    end = ("end", -1, UNIT, (), None, 0, (), ())

    def program(self, *steps):
        main = ("main", 0, (), (INT,), INT, ((), steps, 2))
        return ((), ("Div", "Index", "Size"), (main,))

    def test_run(self):
        right = self.program(self.new, self.pair, self.get, self.end)
        self.assertIsNone(regions.check(right))
        self.assertEqual(regions.run(right, (7,), fuel=0), (
            (None, 7, (), 0), 2, 0, (("new", 0, 0, 0), ("cell", 0, 2, 2), ("touch", 0, 0, 2), ("end", 0, 2, 0)),
        ))

    def test_ended(self):
        wrong = self.program(self.new, self.pair, self.end, self.get)
        with self.assertRaises(RegionError) as caught:
            regions.check(wrong)
        self.assertEqual((caught.exception.path, caught.exception.reason), ((0, 3), "ended"))
        self.assertEqual(
            regions.run(wrong, (7,), fuel=0),
            ((("touch",), 0, (), 0), 2, 0, (("new", 0, 0, 0), ("cell", 0, 2, 2), ("end", 0, 2, 0))),
        )

    def test_left(self):
        with self.assertRaises(RegionError) as caught:
            regions.check(self.program(self.new, self.pair, self.get))
        self.assertEqual((caught.exception.path, caught.exception.reason), ((0,), "left"))
        self.assertIsInstance(caught.exception, EscheatError)


class PlaceExampleTest(unittest.TestCase):
    def test_coarse(self):
        main = ("main", 0, (), (INT,), INT, ((), (), 0))
        self.assertEqual(
            place.coarse(((), ("Div", "Index", "Size"), (main,)))[2][0][5][1],
            (("new", -1, ("unit", (), 0), (), None, 0, (), ()), ("end", -1, ("unit", (), 0), (), None, 0, (), ())),
        )

    def flat(self, *more, value=2):
        pair = ("tuple", 1, PAIR, (0, 0), None, 0, (), ())
        get = ("get", 2, INT, (1,), 0, 0, (), ())
        return ((), ("Div", "Index", "Size"), (("main", 0, (), (INT,), INT, ((), (pair, get) + more, value)),))

    def steps(self, program):
        return [row[0] for row in program[2][0][5][1]]

    def test_equal(self):
        program = self.flat()
        self.assertEqual(place.coarse(program), RegionExampleTest().program(
            RegionExampleTest.new, RegionExampleTest.pair, RegionExampleTest.get, RegionExampleTest.end))
        self.assertEqual(place.find(program), place.coarse(program))

    def test_with_a_third_step(self):
        program = self.flat(("add", 3, INT, (2, 2), None, 0, (), ()), value=3)
        self.assertEqual(self.steps(place.coarse(program)), ["new", "tuple", "get", "add", "end"])
        self.assertEqual(self.steps(place.find(program)), ["new", "tuple", "get", "end", "add"])

    def test_keeper(self):
        program = place.find(self.flat())
        self.assertEqual(place.keeper(program, (0, 1), 0), (0, 2))
        self.assertIsNone(place.keeper(program, (0, 2), 0))


if __name__ == "__main__":
    unittest.main()
