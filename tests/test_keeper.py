"""Keepers: which steps can follow a place, and which of them touch a region by themselves."""

import unittest

from escheat import place, regions
from escheat.errors import RegionError
from tests import region_moves
from tests.helpers import INT, UNIT
from tests.programs import block, end, flattened, function, in_pair, main_of, new, number, pair, program, step

FLAG = step("bool", 1, ("bool", (), 0), (), True)


def get(out, variable):
    return step("get", out, INT, (variable,), 0)


def can_follow(value, where, path):
    """What the document says, in another way: by walking over all the numbers of both paths."""
    if where[0] != path[0]:
        return False
    op = lambda at: region_moves.step_of(value, at)[0]
    for length in range(3, len(path), 2):
        if op(path[:length - 1]) == "fn" and where[:length] != path[:length]:
            return False
    differ = [at for at, (one, other) in enumerate(zip(where, path)) if one != other]
    if not differ:
        # One path begins with the other: only a block's start is followed by what is in it.
        return len(where) % 2 == 1 and len(path) > len(where)
    at = differ[0]
    if at % 2 == 0:
        return op(where[:at]) == "handle" and where[at] == 0
    if path[at] < where[at]:
        return False
    return len(where) == at + 1 or op(where[:at + 1]) != "fn"


def all_steps(value):
    for path in region_moves.blocks_of(value):
        for index in range(len(region_moves.steps_at(value, path))):
            yield path + (index,)


class KeeperTest(unittest.TestCase):
    def check(self, value, wanted):
        """Check the keepers of region 0; a dict from places to the paths of which one is due, or to None."""
        self.assertIsNone(regions.check(value))
        for where, paths in wanted.items():
            found = place.keeper(value, where, 0)
            if paths is None:
                self.assertIsNone(found, where)
            else:
                self.assertIn(found, paths if isinstance(paths, list) else [paths], where)

    def test_straight(self):
        value = main_of((new(0), pair(1, 0), number(2), get(3, 1), end(0), number(4)), 0)
        self.check(value, {(0,): [(0, 1), (0, 3)], (0, 0): [(0, 1), (0, 3)], (0, 1): (0, 3), (0, 2): (0, 3),
                           (0, 3): None, (0, 4): None, (0, 5): None})

    def test_other_regions(self):
        value = main_of((new(0), new(7), pair(1, 0), pair(2, 7), get(3, 1), get(4, 2), end(0), end(7)), 0)
        self.assertEqual(place.keeper(value, (0, 4), 7), (0, 5))
        self.assertIsNone(place.keeper(value, (0, 4), 0))
        self.assertIsNone(place.keeper(value, (0,), 5))
        self.assertIsNone(place.keeper(value, (0, 5), 7))

    def test_branches(self):
        first, second = block((get(3, 2),), 3), block((number(4), get(5, 2)), 5)
        value = main_of((FLAG, new(0), pair(2, 0), step("if", 6, INT, (1,), blocks=(first, second)), end(0)), 0)
        self.check(value, {
            (0, 2): [(0, 3, 0, 0), (0, 3, 1, 1)], (0, 3, 0): (0, 3, 0, 0), (0, 3, 0, 0): None, (0, 3, 1): (0, 3, 1, 1),
            (0, 3, 1, 0): (0, 3, 1, 1), (0, 3, 1, 1): None, (0, 3): None,
        })

    def test_behind_branches(self):
        branches = step("if", 6, INT, (1,), blocks=(block((number(3),), 3), block((), 0)))
        value = main_of((FLAG, new(0), pair(2, 0), branches, get(7, 2), end(0)), 0)
        self.check(value, {(0, 3, 0): (0, 4), (0, 3, 0, 0): (0, 4), (0, 3, 1): (0, 4), (0, 3): (0, 4), (0, 4): None})

    def test_case(self):
        datas = (("list", (("Nil", ()), ("Cons", (INT, ("data", 0, 0))))),)
        made = step("make", 2, ("data", 0, 0), (), 0)
        case = step("case", 5, INT, (2,), blocks=(block((), 0), block((), 3, (3, 4))))
        value = main_of((new(0), made, case, end(0)), 5, datas=datas)
        self.check(value, {(0,): (0, 2), (0, 0): (0, 2), (0, 1): (0, 2), (0, 2, 0): None, (0, 2, 1): None, (0, 2): None})

    def test_handle(self):
        def handle(body, normal, arm):
            return step("handle", 9, INT, (), (0,), use=(0,), blocks=(body, normal, arm))

        body = block((number(3), get(4, 2)), 4)
        value = main_of((new(0), pair(2, 0), handle(body, block((), 5, (5,)), block((get(7, 2),), 7, (6,))), end(0)), 0)
        self.check(value, {
            (0, 2, 0): [(0, 2, 0, 1), (0, 2, 2, 0)], (0, 2, 0, 1): (0, 2, 2, 0), (0, 2, 1): None, (0, 2, 2): (0, 2, 2, 0),
            (0, 2, 2, 0): None, (0, 1): [(0, 2, 0, 1), (0, 2, 2, 0)], (0, 2): None,
        })
        value = main_of((new(0), pair(2, 0), handle(block((number(3),), 3), block((get(8, 2),), 8, (5,)),
                                                    block((), 6, (6,))), end(0)), 0)
        self.check(value, {(0, 2, 0): (0, 2, 1, 0), (0, 2, 0, 0): (0, 2, 1, 0), (0, 2, 1): (0, 2, 1, 0), (0, 2, 2): None})

    def test_deep_in_a_body(self):
        inner = step("if", 6, INT, (1,), blocks=(block((number(3),), 3), block((), 0)))
        handle = step("handle", 9, INT, (), (0,), use=(0,), blocks=(
            block((inner,), 6), block((), 4, (4,)), block((get(7, 2),), 7, (5,))))
        value = main_of((FLAG, new(0), pair(2, 0), handle, end(0)), 0)
        self.check(value, {(0, 3, 0, 0, 0): (0, 3, 2, 0), (0, 3, 0, 0, 0, 0): (0, 3, 2, 0), (0, 3, 1): None})

    def test_closures(self):
        """What is in the block of a closure does not follow what is outside, and the other way round."""
        inner = block((pair(3, 0), get(4, 3), number(8)), 4, (2,))
        maker = step("fn", 5, ("fn", (INT, INT), 0), region=0, blocks=(inner,))
        value = main_of((new(0), maker, step("apply", 6, INT, (5, 0)), end(0)), 0)
        self.check(value, {
            (0,): [(0, 1), (0, 2)], (0, 0): [(0, 1), (0, 2)], (0, 1): (0, 2), (0, 2): None,
            (0, 1, 0): [(0, 1, 0, 0), (0, 1, 0, 1)], (0, 1, 0, 0): (0, 1, 0, 1), (0, 1, 0, 1): None, (0, 1, 0, 2): None,
        })

    def test_calls(self):
        callee = function((get(2, 0), end(0)), 2, kinds=(in_pair(0), in_pair(1)), formals=2, touch=(0,))
        steps = (new(0), new(1), pair(1, 0), pair(2, 1), end(1), step("call", 3, INT, (1, 2), 0, use=(
            (0, "last"), (1, "none"))))
        value = program(callee, function(steps, 3, name="main", kinds=(INT,)))
        self.assertEqual(place.keeper(value, (1, 3), 0), (1, 5))
        self.assertIsNone(place.keeper(value, (1, 3), 1))
        # In the callee, the region 0 is its formal.
        self.assertEqual(place.keeper(value, (0,), 0), (0, 0))
        self.assertIsNone(place.keeper(value, (0, 0), 0))

    def test_every_touching_op(self):
        ref, array, fn = ("ref", (INT,), 0), ("array", (INT,), 0), ("fn", (INT, INT), 0)
        made = {
            "ref": step("ref", 1, ref, (0,), region=0), "array": step("array", 1, array, (0, 0), region=0),
            "tuple": pair(1, 0), "fn": step("fn", 1, fn, region=0, blocks=(block((), 2, (2,)),)),
        }
        for name, reader in (("ref", step("deref", 3, INT, (1,))), ("ref", step("set", 3, UNIT, (1, 0))),
                             ("array", step("at", 3, INT, (1, 0))), ("array", step("put", 3, UNIT, (1, 0, 0))),
                             ("array", step("len", 3, INT, (1,))), ("tuple", get(3, 1)),
                             ("fn", step("apply", 3, INT, (1, 0)))):
            value = main_of((new(0), made[name], reader, end(0)), 0)
            self.check(value, {(0, 0): [(0, 1), (0, 2)], (0, 1): (0, 2), (0, 2): None})
        # These touch nothing by themselves.
        value = main_of((new(0), pair(1, 0), end(0), step("print", 2, UNIT, (0,)), step("raise", 3, in_pair(0), (0,), 0)), 0)
        self.check(value, {(0,): (0, 1), (0, 1): None})

    def test_rejected_programs(self):
        value = main_of((new(0), pair(1, 0)), 0)
        for where in ((0,), (9,), None):
            with self.assertRaises(RegionError) as caught:
                place.keeper(value, where, 0)
            self.assertEqual((caught.exception.path, caught.exception.reason), ((0,), "left"))
        with self.assertRaises(RegionError) as caught:
            place.keeper(None, (0,), 0)
        self.assertEqual((caught.exception.path, caught.exception.reason), ((), "shape"))

    def test_all_places(self):
        """Each answer follows its place and touches the region; None is given if no step does."""
        text = ("(data list (Nil) (Cons int list)) (fun f ((t (tuple int int)) (n int)) int (handle (if (less n 1) "
                "(get 0 t) (apply (fn (x int) (case (Cons x (Nil)) ((Nil) 0) ((Cons a b) (f (tuple a x) (sub n 1))))) n)) "
                "(Div x (get 1 t)) (Size y y))) (fun main ((n int)) int (f (tuple n n) n))")
        value = place.find(flattened(text))
        steps = list(all_steps(value))
        starts = list(region_moves.blocks_of(value))
        self.assertGreater(len(steps), 20)
        for where in steps + starts:
            following = [path for path in steps if can_follow(value, where, path)]
            for region in range(5):
                touching = [path for path in following if region in self.touched(value, path)]
                found = place.keeper(value, where, region)
                if touching:
                    self.assertIn(found, touching)
                else:
                    self.assertIsNone(found)

    def touched(self, value, path):
        """The regions that a step touches; the kinds of the variables are found by looking for them everywhere."""
        one = region_moves.step_of(value, path)
        op, _, _, ins, info, region, use, _ = one
        if op in ("tuple", "fn", "ref", "array") or op == "make" and ins:
            return {region}
        if op == "call":
            return {use[formal][0] for formal in value[2][info][2]}
        if op in ("get", "apply", "case"):
            return {self.kind(value, path[0], ins[0])[2]}
        return set()

    def kind(self, value, number, variable):
        kinds = dict(enumerate(value[2][number][3]))
        for path in all_steps(value):
            if path[0] == number:
                one = region_moves.step_of(value, path)
                kinds[one[1]] = one[2]
        return kinds[variable]


if __name__ == "__main__":
    unittest.main()
