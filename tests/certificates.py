"""What the tests of certificates share: faults, least certificates, and certificates with one number changed."""

import unittest

from escheat import bounds
from escheat.errors import CertificateError
from tests import bound_reference
from tests.helpers import INT
from tests.programs import block, function, program, step

LIST = ("data", 0, 0)
LIMIT = 10 ** 12
# list: a number and a list; mix: a constructor of each sort of fields.
DATAS = (
    ("list", (("Nil", ()), ("Cons", (INT, LIST)))),
    ("tree", (("Leaf", ()), ("Node", (("data", 1, 0), INT, ("data", 1, 0))))),
    ("mix", (("Numbers", (INT, ("bool", (), 0))), ("Array", (("array", (INT,), 0), LIST)),
             ("Pair", (("tuple", (INT, INT), 0), ("ref", (INT,), 0))), ("Flag", (("unit", (), 0),)))),
    ("many", (("Many", (LIST, LIST, INT, LIST)),)),
)


def fault(value, certificates):
    """The number and the reason of the CertificateError that accept raises, or None."""
    try:
        found = bounds.accept(value, certificates)
    except CertificateError as error:
        return (error.number, error.reason)
    assert found is None
    return None


def wanted_fault(value, certificates):
    """The same by the reference, for certificates of the right form with one for main."""
    for number in range(len(certificates)):
        if not bound_reference.holds(value, certificates, number):
            return (number, "bound")
    return None


def expressions(certificate):
    """The places of the linear expressions in a certificate."""
    return [(2,)] + [(3, index) for index in range(len(certificate[3]))] + ([(4,)] if certificate[4] is not None else [])


def with_number(certificate, place, index, change):
    """A certificate in which one number of one expression is changed."""
    parts = list(certificate)
    if place[0] == 3:
        growth = list(parts[3])
        numbers = list(growth[place[1]])
        numbers[index] += change
        growth[place[1]] = tuple(numbers)
        parts[3] = tuple(growth)
    else:
        numbers = list(parts[place[0]])
        numbers[index] += change
        parts[place[0]] = tuple(numbers)
    return tuple(parts)


def lowered(certificates):
    """All certificates with one of the numbers one less."""
    for number, certificate in enumerate(certificates):
        for place in expressions(certificate):
            numbers = certificate[4] if place == (4,) else certificate[2] if place == (2,) else certificate[3][place[1]]
            for index, value in enumerate(numbers):
                if value > 0:
                    changed = with_number(certificate, place, index, -1)
                    yield certificates[:number] + (changed,) + certificates[number + 1:]


def with_main(*functions, datas=DATAS, exceptions=()):
    """A program of these functions and a main function that calls none of them."""
    main = function((), 0, name="main", kinds=(INT,))
    return program(*functions, main, datas=datas, exceptions=exceptions)


def certificate(number, peak, growth=(), size=None, mine=()):
    return (number, tuple(mine), tuple(peak), tuple(growth), size)


class CertificateTest(unittest.TestCase):
    def accepts(self, value, certificates):
        self.assertEqual((fault(value, certificates), wanted_fault(value, certificates)), (None, None))

    def refuses(self, value, certificates, number=0):
        self.assertEqual(fault(value, certificates), (number, "bound"))
        self.assertEqual(wanted_fault(value, certificates), (number, "bound"))

    def least(self, value, *certificates):
        """Check that certificates are accepted, and refused when any of their numbers is one less."""
        self.accepts(value, certificates)
        for changed in lowered(certificates):
            found = fault(value, changed)
            self.assertIsNotNone(found, changed)
            self.assertEqual((found, found[1]), (wanted_fault(value, changed), "bound"))

    def function_least(self, one, peak, growth=(), size=None, *, mine=(), datas=DATAS):
        """Check the least certificate of one function; main has nothing to do with it."""
        value = with_main(one, datas=datas)
        self.least(value, certificate(0, peak, growth, size, mine), certificate(1, (0, 0)))

    def unknown(self, value, peak=(0, 0), growth=()):
        """Check that the function 0 has a certificate without a size, and none with any size.

        The greatest sizes alone would not tell: they may be too great where a path variable is replaced.
        """
        main_certificate = certificate(1, (0, 0))
        self.accepts(value, (certificate(0, peak, growth), main_certificate))
        for size in ((10 ** 9,) * len(peak), (0,) + (LIMIT,) * (len(peak) - 1), (LIMIT,) * len(peak)):
            self.refuses(value, (certificate(0, peak, growth, size), main_certificate))

    def size_of(self, steps, value, size, *, kinds=(INT,), **more):
        """Check the least size of the result of a function without cells; None if it is unknown."""
        one = function(steps, value, kinds=kinds, **more)
        zero = (0,) * (1 + len(kinds))
        if size is not None:
            self.function_least(one, zero, (), size)
        else:
            self.unknown(with_main(one), zero)


__all__ = ["CertificateTest", "DATAS", "LIMIT", "LIST", "block", "certificate", "fault", "function", "lowered",
           "program", "step", "wanted_fault", "with_main", "with_number"]
