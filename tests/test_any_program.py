"""Values that are no programs, and right programs with any value in any place: the named errors and no others."""

import unittest

from escheat import flat, place, regions
from escheat.errors import FlatError, RegionError
from tests.helpers import JUNK, deep, places, replace
from tests.programs import flat_fault, flattened, region_fault

VALUES = JUNK + (deep(200), "new", "end", "call", "handle", "keep", (0,), (0, 1), ((0, "keep"),), 2, -7)

# Small enough to put every value into every place, and with every op in one of them.
TEXTS = (
    "(fun main ((n int)) int (get 0 (tuple n (add n 1))))",
    "(data list (Nil) (Cons int list)) (fun f ((xs list) (n int)) list (case xs ((Nil) (Cons n xs)) ((Cons x y) y))) "
    "(fun main ((n int)) int (case (f (Nil) n) ((Nil) 1) ((Cons x xs) (seq (print x) x))))",
    "(fun main ((n int)) int (let r (ref n) (let f (fn (x int) (set r x)) (seq (apply f 3) (handle (deref r) "
    "(Div y (if (less y 1) 4 5)))))))",
    "(fun main ((n int)) int (let a (array 2 true) (handle (seq (put a n false) (if (at a 0) (len a) (raise Size int 4)))"
    " (Index i (sub i (mul 2 (div 9 (rem 7 2))))))))",
)


def reach(judge, value):
    """What a function answers, or the error that it is allowed to raise."""
    try:
        return judge(value)
    except (FlatError, RegionError) as error:
        return error


def looks_like_path(path):
    return isinstance(path, tuple) and all(type(index) is int and index >= 0 for index in path)


class NoProgramTest(unittest.TestCase):
    LARGE = ((((),) * 99999), ("a",) * 99999, "x" * 99999, ((), ("Div", "Index", "Size"), (deep(198),)),
             ((), ("Div", "Index", "Size"), ((),) * 9999), (deep(199),) * 3, ((deep(197),), (), ()))

    def test_flat(self):
        for value in VALUES + self.LARGE:
            self.assertEqual(flat_fault(value), ())
            for judge in (lambda it: flat.run(it, ()), place.find, place.coarse, place.build):
                error = reach(judge, value)
                self.assertIs(type(error), FlatError)
                self.assertEqual(error.path, ())

    def test_regions(self):
        for value in VALUES + self.LARGE:
            for judge in (regions.check, lambda it: regions.run(it, ()), regions.erase,
                          lambda it: place.keeper(it, (0,), 0)):
                error = reach(judge, value)
                self.assertIs(type(error), RegionError)
                self.assertEqual((error.path, error.reason), ((), "shape"))

    def test_deep_in_a_block(self):
        """Blocks in blocks in blocks, far deeper than a program may have them."""
        block = ((), (), 0)
        for _ in range(45):
            block = ((), (("handle", 1, ("int", (), 0), (), (), 0, (), (block,)),), 0)
        value = ((), ("Div", "Index", "Size"), (("main", 0, (), (), ("int", (), 0), block),))
        self.assertEqual(flat_fault(value), ())
        self.assertEqual(region_fault(value), ((), "shape"))

    def test_deep_kind(self):
        kind = ("int", (), 0)
        for _ in range(90):
            kind = ("ref", (kind,), 0)
        value = ((), ("Div", "Index", "Size"), (("main", 0, (), (), kind, ((), (), 0)),))
        self.assertEqual(flat_fault(value), (0,))
        self.assertEqual(region_fault(value), ((), "shape"))


class AnyPlaceTest(unittest.TestCase):
    def test_flat(self):
        for text in TEXTS:
            program = flattened(text)
            right = 0
            for path in places(program):
                for value in VALUES:
                    changed = replace(program, path, value)
                    fault = flat_fault(changed)
                    if fault is None:
                        right += 1
                        self.check_right(changed)
                    else:
                        self.assertTrue(looks_like_path(fault))
                        self.check_path(path, fault)
            self.assertGreater(right, 0)

    def check_path(self, changed, fault):
        """An error lies in the changed function, or behind it, or is one of the whole value."""
        if changed[:1] == (2,) and len(changed) > 1 and fault:
            self.assertGreaterEqual(fault[0], changed[1])

    def check_right(self, program):
        """What is still a flat program runs, and its regions are found."""
        result = flat.run(program, (4,), fuel=30)
        for placed in (place.coarse(program), place.build(program)):
            self.assertIsNone(regions.check(placed))
            self.assertEqual(regions.erase(placed), program)
            self.assertEqual(regions.run(placed, (4,), fuel=30)[0], result)

    def test_regions(self):
        for text in TEXTS:
            for program in (place.find(flattened(text)), place.coarse(flattened(text))):
                self.assertIsNone(regions.check(program))
                for path in places(program):
                    for value in VALUES:
                        self.check_changed(replace(program, path, value))

    def check_changed(self, changed):
        fault = region_fault(changed)
        erased = reach(regions.erase, changed)
        run = reach(lambda it: regions.run(it, (4,), fuel=30), changed)
        if fault is None:
            self.assertIsNone(flat_fault(erased))
            self.assertEqual(run[0], flat.run(erased, (4,), fuel=30))
            self.assertNotEqual(run[0][0], ("touch",))
            return
        self.assertTrue(looks_like_path(fault[0]))
        if fault[1] == "shape":
            self.assertEqual((erased.path, erased.reason), fault)
        else:
            self.assertIs(type(erased), tuple)
        if fault[1] in ("shape", "flat"):
            self.assertEqual(fault[0], ())
        else:
            self.assertIsNone(flat_fault(erased))
        if fault[1] in ("shape", "flat", "scope", "kind"):
            self.assertEqual((run.path, run.reason), fault)
        else:
            self.assertIn(fault[1], ("reach", "ended", "mode", "kept", "left", "join", "escapes"))
            self.assertTrue(type(run) is tuple or run.reason in ("scope", "kind"))


class KeeperPlacesTest(unittest.TestCase):
    def test_any_place(self):
        program = place.find(flattened(TEXTS[0]))
        for value in VALUES + (deep(200), (0, 0, 0), (5,), (0, 99), (1, 0), (-1,), (0, -1), (0, "0"), (0, None),
                               (0, True), (False, 1), (0, (1,)), ((0,), 1), (10 ** 30,), (0, 10 ** 30), [0, 1]):
            if value not in ((0,), (0, 1)):
                self.assertIsNone(place.keeper(program, value, 0), value)
        self.assertEqual(place.keeper(program, (0,), 0), (0, 3))


if __name__ == "__main__":
    unittest.main()
