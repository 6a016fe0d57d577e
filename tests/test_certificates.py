"""The form of certificates, the order of the errors, bound, and linear expressions."""

import unittest

from escheat import bounds, place
from escheat.bounds import Linear
from escheat.errors import CertificateError, RegionError
from tests.certificates import fault
from tests.helpers import INT, JUNK, deep, places, replace
from tests.programs import end, flattened, function, in_pair, main_of, new, pair, program, step

LIMIT = 10 ** 12

# f owns or does not own its two formals that it touches; the third one it does not touch.
CALLEE = function((end(0), pair(9, 2, 0, 0), end(2)), 0, name="f", kinds=(INT, in_pair(1)), formals=3, touch=(0, 2))
PROGRAM = program(CALLEE, function((), 0, name="main", kinds=(INT, INT)))
NONE = (0, (), (2, 0, 0), ((0, 0, 0), (2, 0, 0)), None)
FIRST = (0, (0,), (2, 0, 0, 1), ((2, 0, 0, 0),), None)
BOTH = (0, (0, 2), (2, 0, 0, 1, 1), (), (0, 1, 0, 0, 0))
MAIN = (1, (), (0, 0, 0), (), None)
RIGHT = (NONE, FIRST, BOTH, MAIN)

EXAMPLE = main_of((new(0), pair(1, 0), step("get", 2, INT, (1,), 0), end(0)), 2)


class FormTest(unittest.TestCase):
    def shape(self, *certificates):
        """The last certificate does not have the form of one."""
        self.assertEqual(fault(PROGRAM, certificates), (len(certificates) - 1, "shape"))

    def test_right(self):
        self.assertIsNone(fault(PROGRAM, RIGHT))
        self.assertIsNone(fault(PROGRAM, list(RIGHT)))
        self.assertIsNone(fault(PROGRAM, RIGHT[::-1]))

    def test_length(self):
        for wrong in ((), NONE[:4], NONE + (None,), list(NONE), None, 0, "abcde", True, (None,) * 5, deep(200)):
            self.shape(wrong)
            self.shape(MAIN, FIRST, wrong)

    def test_function(self):
        for wrong in (2, -1, True, False, None, "0", (0,), 10 ** 30):
            self.shape(MAIN, (wrong, *NONE[1:]))
            self.shape((wrong, *NONE[1:]))

    def test_mine(self):
        self.assertIsNone(fault(PROGRAM, (MAIN, (0, (2,), (2, 0, 0, 1), ((0, 0, 0, 0),), None))))
        for mine, growth in (((1,), 1), ((3,), 1), ((-1,), 1), ((2, 0), 0), ((0, 0), 0), ((True,), 1), ((False,), 1), ((None,), 1),
                             (("0",), 1), ((0, 1), 0), ((0, 1, 2), 0), ((10 ** 30,), 1), (((0,),), 1)):
            numbers = (3, 3, 3) + (1,) * len(mine)
            self.shape((0, mine, numbers, (numbers,) * growth, None))
        for mine in (None, 0, [0], "0", [], {}):
            self.shape((0, mine, (2, 0, 0), ((0, 0, 0), (2, 0, 0)), None))
            self.shape((0, mine, (2, 0, 0, 1), ((2, 0, 0, 0),), None))

    def test_main_has_no_regions(self):
        self.shape((1, (0,), (0, 0, 0, 1), (), None))
        self.shape((1, (), (0, 0, 0), ((0, 0, 0),), None))

    def test_growth(self):
        for growth in ((), ((0, 0, 0),), ((0, 0, 0), (2, 0, 0), (0, 0, 0)), ((0, 0), (2, 0, 0)), ((0, 0, 0), (2, 0, 0, 0)),
                       ((0, 0, 0), None), (None, (2, 0, 0)), ((0, 0, 0), 2), [(0, 0, 0), (2, 0, 0)], None, 0, ((0, 0, 0), [2, 0, 0])):
            self.shape(NONE[:3] + (growth, None))

    def test_size(self):
        for size in ((0, 1), (0, 1, 0, 0), (), 0, False, True, "", [0, 1, 0], (0, 1, None), (0, True, 0), (0, 1, -1)):
            self.shape(NONE[:4] + (size,))
        self.assertIsNone(fault(PROGRAM, (NONE[:4] + ((0, 1, 0),), MAIN)))

    def test_numbers(self):
        for number in (-1, LIMIT + 1, True, False, None, "0", (0,), 10 ** 30, -10 ** 30):
            for index in range(3):
                wrong = replace((2, 0, 0), (index,), number)
                self.shape((0, (), wrong, NONE[3], None))
                self.shape((0, (), NONE[2], ((0, 0, 0), wrong), None))
                self.shape((0, (), NONE[2], (wrong, (2, 0, 0)), None))
                self.shape((0, (), NONE[2], NONE[3], wrong))
        for index in range(3):
            for number in (5, LIMIT):
                great = replace((2, 1, 1), (index,), number)
                self.assertIsNone(fault(PROGRAM, ((0, (), great, (great, great), great), MAIN)))
                self.assertIsNone(fault(PROGRAM, (MAIN[:2] + (great,) + MAIN[3:],)))

    def test_the_same_goal_twice(self):
        self.shape(NONE, NONE)
        self.shape(MAIN, MAIN)
        self.shape(NONE, FIRST, MAIN, (0, (), (5, 5, 5), ((5, 5, 5), (5, 5, 5)), None))
        self.shape(MAIN, FIRST, BOTH, (0, (0,), *FIRST[2:]))

    def test_any_value_in_any_place(self):
        for path in places(RIGHT):
            for value in (None, True, False, -1, 7, LIMIT + 1, "text", (), deep(200)):
                found = fault(PROGRAM, replace(RIGHT, path, value))
                if found is not None:
                    self.assertIn(found[1], ("shape", "main", "bound"))
                    self.assertTrue(-1 <= found[0] < 4)
                if path and (value in (True, False, -1, LIMIT + 1, "text") or value == deep(200)):
                    self.assertEqual(found, (path[0], "shape"))


class OrderTest(unittest.TestCase):
    def test_what_is_no_tuple_and_no_list(self):
        for value in (None, 0, True, "", "certificates", {}, {0: MAIN}, {MAIN}, object()):
            self.assertEqual(fault(PROGRAM, value), (-1, "main"))
        for value in ((), [], (NONE,), (NONE, FIRST, BOTH)):
            self.assertEqual(fault(PROGRAM, value), (-1, "main"))

    def test_shape_comes_before_main_and_main_before_bound(self):
        wrong_bound = (0, (), (1, 0, 0), ((0, 0, 0), (2, 0, 0)), None)
        self.assertEqual(fault(PROGRAM, (wrong_bound, MAIN, None)), (2, "shape"))
        self.assertEqual(fault(PROGRAM, (wrong_bound, 5, None)), (1, "shape"))
        self.assertEqual(fault(PROGRAM, (wrong_bound, None)), (1, "shape"))
        self.assertEqual(fault(PROGRAM, (wrong_bound,)), (-1, "main"))
        self.assertEqual(fault(PROGRAM, (wrong_bound, MAIN)), (0, "bound"))
        self.assertEqual(fault(PROGRAM, (MAIN, wrong_bound)), (1, "bound"))

    def test_the_first_that_does_not_hold(self):
        wrong_first = FIRST[:2] + ((1, 0, 0, 1),) + FIRST[3:]
        wrong_both = BOTH[:2] + ((2, 0, 0, 0, 1),) + BOTH[3:]
        self.assertEqual(fault(PROGRAM, (NONE, wrong_first, MAIN, wrong_both)), (1, "bound"))
        self.assertEqual(fault(PROGRAM, (NONE, wrong_both, MAIN, wrong_first)), (1, "bound"))
        self.assertEqual(fault(PROGRAM, (NONE, FIRST, MAIN, wrong_both)), (3, "bound"))

    def test_the_program_comes_first(self):
        for value, path, reason in ((None, (), "shape"), (replace(EXAMPLE, (2, 0, 5, 2), 7), (), "flat"),
                                    (replace(EXAMPLE, (2, 0, 5, 1), (new(0), pair(1, 0), step("get", 2, INT, (1,), 0))), (0,), "left")):
            for certificates in (RIGHT, None, (None,), ()):
                for judge in (lambda: bounds.accept(value, certificates), lambda: bounds.bound(value, certificates, ()),
                              lambda: bounds.find(value)):
                    with self.assertRaises(RegionError) as caught:
                        judge()
                    self.assertEqual((caught.exception.path, caught.exception.reason), (path, reason))

    def test_any_program(self):
        for value in (*JUNK, deep(200), ((),) * 99999):
            for judge in (lambda: bounds.accept(value, ()), lambda: bounds.find(value)):
                with self.assertRaises(RegionError) as caught:
                    judge()
                self.assertEqual((caught.exception.path, caught.exception.reason), ((), "shape"))

    def test_the_argument_is_not_changed(self):
        given = list(RIGHT)
        bounds.accept(PROGRAM, given)
        bounds.bound(PROGRAM, given, [1, 2])
        self.assertEqual(given, list(RIGHT))


class BoundTest(unittest.TestCase):
    THREE = program(function((), 0, name="main", kinds=(INT,) * 3))

    def failure(self, *arguments):
        with self.assertRaises(CertificateError) as caught:
            bounds.bound(*arguments)
        return (caught.exception.number, caught.exception.reason)

    def test_values(self):
        given = ((0, (), (7, 1, 20, 300), (), None),)
        for arguments, wanted in (((0, 0, 0), 7), ((1, 1, 1), 328), ((5, 0, 2), 612), ((-5, -1, 2), 607), ((-1, -1, -1), 7),
                                  ((2 ** 31 - 1, 0, 0), 2 ** 31 + 6), ((2 ** 31, 0, 0), 7), ((0, 2 ** 32 + 3, 0), 67),
                                  ((10 ** 30, 0, 0), 7 + max((10 ** 30 + 2 ** 31) % 2 ** 32 - 2 ** 31, 0))):
            self.assertEqual(bounds.bound(self.THREE, given, arguments), wanted)
            self.assertEqual(bounds.bound(self.THREE, list(given), list(arguments)), wanted)

    def test_the_certificate_of_main(self):
        value = bounds.bound(PROGRAM, RIGHT, (3, 4))
        self.assertEqual(value, 0)
        self.assertEqual(bounds.bound(PROGRAM, (NONE, (1, (), (2, 3, 1), (), None), FIRST), (3, 4)), 15)

    def test_great_numbers(self):
        given = ((0, (), (LIMIT, LIMIT, LIMIT, LIMIT), (), None),)
        self.assertEqual(bounds.bound(self.THREE, given, (2 ** 31 - 1,) * 3), LIMIT * (1 + 3 * (2 ** 31 - 1)))

    def test_errors(self):
        given = ((0, (), (7, 1, 20, 300), (), None),)
        for arguments in ((), (1,), (1, 2), (1, 2, 3, 4)):
            self.assertEqual(self.failure(self.THREE, given, arguments), (-1, "arguments"))
            # What accept raises comes first.
            self.assertEqual(self.failure(self.THREE, (), arguments), (-1, "main"))
            self.assertEqual(self.failure(self.THREE, (5,), arguments), (0, "shape"))
        self.assertEqual(self.failure(EXAMPLE, ((0, (), (1, 0), (), None),), ()), (0, "bound"))
        self.assertEqual(self.failure(EXAMPLE, ((0, (), (1, 0), (), None),), (1,)), (0, "bound"))
        self.assertEqual(self.failure(EXAMPLE, ((0, (), (2, 0), (), None),), ()), (-1, "arguments"))


class LinearTest(unittest.TestCase):
    def test_example(self):
        self.assertEqual((Linear(1, (2, 0)) + Linear(0, (1, 5))).value((10, 1)), 36)

    def test_attributes(self):
        one = Linear(3, (4, 5))
        self.assertEqual((one.constant, one.coefficients), (3, (4, 5)))

    def test_sum(self):
        one, other = Linear(3, (4, 5)), Linear(10, (0, LIMIT))
        total = one + other
        self.assertIs(type(total), Linear)
        self.assertEqual((total.constant, total.coefficients), (13, (4, LIMIT + 5)))
        self.assertIs(type(total.coefficients), tuple)
        self.assertEqual((one.constant, one.coefficients, other.constant, other.coefficients), (3, (4, 5), 10, (0, LIMIT)))
        empty = Linear(1, ()) + Linear(2, ())
        self.assertEqual((empty.constant, empty.coefficients), (3, ()))
        self.assertIsNot(Linear(0, (0,)) + one.__class__(0, (0,)), one)

    def test_at_most(self):
        one = Linear(3, (4, 5))
        for other, wanted in (((3, (4, 5)), True), ((4, (5, 6)), True), ((2, (9, 9)), False), ((9, (3, 9)), False),
                              ((9, (9, 4)), False), ((3, (4, 6)), True), ((0, (0, 0)), False)):
            self.assertIs(one.at_most(Linear(*other)), wanted)
        self.assertIs(Linear(1, ()).at_most(Linear(1, ())), True)
        self.assertIs(Linear(2, ()).at_most(Linear(1, ())), False)

    def test_value(self):
        self.assertEqual(Linear(3, (4, 5)).value((0, 0)), 3)
        self.assertEqual(Linear(3, (4, 5)).value((1, 0)), 7)
        self.assertEqual(Linear(3, (4, 5)).value((0, 1)), 8)
        self.assertEqual(Linear(3, (4, 5)).value((10 ** 20, 2)), 4 * 10 ** 20 + 13)
        self.assertEqual(Linear(3, ()).value(()), 3)


class FoundFormTest(unittest.TestCase):
    def test_they_are_certificates(self):
        found = bounds.find(EXAMPLE)
        self.assertIs(type(found), tuple)
        self.assertIsNone(bounds.accept(EXAMPLE, found))
        found = bounds.find(place.build(flattened("(fun main ((n int)) int (get 0 (tuple n n)))")))
        self.assertTrue(all(type(one) is tuple and len(one) == 5 for one in found))


if __name__ == "__main__":
    unittest.main()
