"""The guarantee of the whole program: texts that are built and run."""

import inspect
import random
import sys
import unittest

from escheat import bounds, flat, machine, plain, regions, system
from escheat.errors import CertificateError, KindError, TextError
from escheat.kinds import with_kinds
from escheat.words import write_program
from tests.programs import region_fault
from tests.random_trees import Maker
from tests.region_changes import changed
from tests.test_find_bounds import FOUND, NOT_FOUND
from tests.test_place import TEXTS
from tests.test_translate import texts

ARGUMENTS = ((3, 4, 5), (0, 1, -1), (12, 13, 2 ** 31))


class GuaranteeTest(unittest.TestCase):
    def check_events(self, metered):
        """Every cell lies in an instance that has begun and has not ended, and the words add up."""
        result, peak, left, events = metered
        held, total = {}, []
        for what, instance, words, now in events:
            if what == "new":
                self.assertEqual((instance, words), (len(total), 0))
                total.append(0)
                held[instance] = 0
            else:
                self.assertIn(instance, held)
            if what == "cell":
                self.assertGreater(words, 0)
                held[instance] += words
            if what == "end":
                self.assertEqual(held.pop(instance), words)
            self.assertEqual(now, sum(held.values()))
        self.assertEqual(peak, max([event[3] for event in events], default=0))
        self.assertEqual(left, events[-1][3] if events else 0)
        if result[0] != ("fuel",):
            self.assertEqual((left, held), (0, {}))

    def check_run(self, tree, code, certificates, placed, arguments, fuel):
        wanted = plain.run(tree, arguments, fuel=fuel)
        metered = machine.run(code, arguments, fuel=fuel)
        self.assertEqual(metered[0], wanted)
        self.check_events(metered)
        if certificates is not None:
            self.assertLessEqual(metered[1], bounds.bound(placed, certificates, arguments))

    def check(self, text, fuels=(0, 1, 2, 3, 7, 20, 200, 1000, -3)):
        tree, program, placed, code = system.build(text)
        self.assertIsNone(regions.check(placed))
        self.assertEqual(regions.erase(placed), program)
        try:
            certificates = bounds.find(placed)
        except CertificateError:
            certificates = None
        many = len(tree[2][-1][1])
        for arguments in ARGUMENTS:
            for fuel in fuels:
                self.check_run(tree, code, certificates, placed, arguments[:many], fuel)
        return certificates is not None

    def test_texts(self):
        for text in (*TEXTS, *[text for text, _ in FOUND], *NOT_FOUND):
            self.check(text)

    def test_each_op_everywhere(self):
        for text in texts():
            self.check(text, (0, 2, 200))

    def test_random_texts(self):
        count = 0
        for seed in range(1000, 1400):
            try:
                self.check(write_program(Maker(seed).tree()), (0, 3, 200))
                count += 1
            except (TextError, KindError):
                pass
        self.assertGreater(count, 30)

    def test_any_region_program_that_is_accepted(self):
        """No matter where it comes from: the result is that of the erased program."""
        count = 0
        for seed in range(1000, 1300):
            value = changed(system.build(TEXTS[seed % len(TEXTS)])[2], random.Random(seed))
            if region_fault(value) is not None:
                continue
            count += 1
            code, program = machine.translate(value), regions.erase(value)
            many = len(program[2][-1][3])
            for arguments in ARGUMENTS:
                for fuel in (0, 3, 200):
                    metered = machine.run(code, arguments[:many], fuel=fuel)
                    self.assertEqual(metered[0], flat.run(program, arguments[:many], fuel=fuel))
                    self.check_events(metered)
        self.assertGreater(count, 20)


class StacksTest(unittest.TestCase):
    """Calls nest as deeply as the fuel allows, without Python's own calls doing so."""

    DEEP = ("(fun down ((n int)) int (if (less n 1) 0 (add 1 (down (sub n 1))))) (fun main ((n int)) int (down n))",
            "(data list (Nil) (Cons int list)) (fun build ((n int)) list (if (less n 1) (Nil) (Cons n (build (sub n 1))))) "
            "(fun length ((xs list)) int (case xs ((Nil) 0) ((Cons x rest) (add 1 (length rest))))) "
            "(fun main ((n int)) int (length (build (div n 2))))",
            "(fun main ((n int)) int (if (less n 1) 0 (apply (fn (x int) (main x)) (sub n 2))))",
            "(fun main ((n int)) int (if (less n 1) (div 1 0) (handle (main (sub n 1)) (Size x 3))))")

    def test_deep_calls(self):
        limit = sys.getrecursionlimit()
        for text in self.DEEP:
            tree, program, placed, code = system.build(text)
            try:
                # Far fewer calls of Python than calls of the language.
                sys.setrecursionlimit(len(inspect.stack()) + 60)
                found = (plain.run(tree, (190,)), flat.run(program, (190,)), regions.run(placed, (190,))[0],
                         machine.run(code, (190,))[0])
            finally:
                sys.setrecursionlimit(limit)
            self.assertEqual(len(set(found)), 1)
            self.assertGreater(found[0][3], 150)


class PureTest(unittest.TestCase):
    def test_the_same_again(self):
        text = FOUND[6][0]
        self.assertEqual(system.build(text), system.build(text))
        self.assertEqual(system.run_text(text, [5]), system.run_text(text, (5,)))

    def test_arguments_are_not_changed(self):
        arguments = [2 ** 31 + 5]
        for run in (lambda: system.run_text(TEXTS[0], arguments), lambda: plain.run(system.build(TEXTS[0])[0], arguments)):
            run()
            self.assertEqual(arguments, [2 ** 31 + 5])


if __name__ == "__main__":
    unittest.main()
