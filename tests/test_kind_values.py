import unittest

from escheat.kinds import field_kinds, is_kind, kind_size, with_kinds
from escheat.words import read_program
from tests.helpers import BOOL, INT, JUNK, UNIT, deep, main_text, part_at, places, replace


def refs(levels, kind=INT):
    for _ in range(levels):
        kind = ("ref", (kind,), 0)
    return kind


def has_form(value, count):
    """What is_kind says, told kind by kind."""
    if type(value) is not tuple or len(value) != 3:
        return False
    head, what, region = value
    if type(region) is not int or region != 0:
        return False
    if head == "data":
        return type(what) is int and 0 <= what < count
    if type(what) is not tuple or type(head) is not str:
        return False
    rights = {"int": [0], "bool": [0], "unit": [0], "fn": [2], "ref": [1], "array": [1], "tuple": range(2, 100)}
    return len(what) in rights.get(head, []) and all(has_form(part, count) for part in what)


WHOLE = ("tuple", (
    ("fn", (INT, ("data", 0, 0)), 0), ("ref", (BOOL,), 0), ("array", (("tuple", (UNIT, ("data", 1, 0)), 0),), 0),
), 0)


class KindSizeTest(unittest.TestCase):
    def test_single_nodes(self):
        for kind in (INT, BOOL, UNIT, ("data", "list", 0), ("data", 3, 0)):
            self.assertEqual(kind_size(kind), 1)

    def test_parts(self):
        self.assertEqual(kind_size(("ref", (INT,), 0)), 2)
        self.assertEqual(kind_size(("array", (BOOL,), 0)), 2)
        self.assertEqual(kind_size(("fn", (INT, UNIT), 0)), 3)
        self.assertEqual(kind_size(("tuple", (INT, INT, BOOL), 0)), 4)
        self.assertEqual(kind_size(WHOLE), 10)

    def test_equal_parts_count_each_time(self):
        pair = ("tuple", (INT, INT), 0)
        self.assertEqual(kind_size(("tuple", (pair, pair), 0)), 7)

    def test_regions_do_not_count(self):
        self.assertEqual(kind_size(("tuple", (("ref", (INT,), 4), ("data", 0, 2)), 7)), 4)

    def test_large_and_deep_kinds(self):
        self.assertEqual(kind_size(refs(95)), 96)
        self.assertEqual(kind_size(("tuple", (INT,) * 20000, 0)), 20001)


class IsKindTest(unittest.TestCase):
    def assert_kind(self, value, count=2):
        self.assertIs(is_kind(value, count), True)

    def assert_none(self, value, count=2):
        self.assertIs(is_kind(value, count), False)

    def test_kinds(self):
        for kind in (INT, BOOL, UNIT, ("data", 0, 0), ("data", 1, 0), WHOLE):
            self.assert_kind(kind)

    def test_no_limits(self):
        self.assert_kind(refs(95))
        self.assert_kind(("tuple", (INT,) * 20000, 0))
        self.assert_kind(("tuple", (INT, INT), 0))

    def test_numbers_of_data_kinds(self):
        for number in (2, -1, True, False, None, "0", "list", (), (0,), 10 ** 30):
            self.assert_none(("data", number, 0))
        self.assert_none(("data", 0, 0), 0)
        self.assert_kind(("data", 0, 0), 1)
        self.assert_none(("data", 1, 0), 1)

    def test_regions(self):
        for region in (1, -1, False, True, None, "0", (), (0,)):
            self.assert_none(("int", (), region))
            self.assert_none(("data", 0, region))
            self.assert_none(("ref", (INT,), region))
            self.assert_none(("tuple", (INT, ("fn", (INT, BOOL), region)), 0))

    def test_numbers_of_parts(self):
        for head, right in (("int", 0), ("bool", 0), ("unit", 0), ("fn", 2), ("ref", 1), ("array", 1)):
            for many in range(5):
                self.assertIs(is_kind((head, (INT,) * many, 0), 0), many == right)
        self.assert_none(("tuple", (), 0))
        self.assert_none(("tuple", (INT,), 0))

    def test_heads(self):
        for head in ("", "Int", "name", "list", None, 0, (), True, deep(100)):
            self.assert_none((head, (), 0))
            self.assert_none((head, (INT, INT), 0))

    def test_parts_that_are_no_tuple(self):
        for what in (None, 0, "", "ab", INT[0], False):
            for head in ("int", "tuple", "fn", "ref", "array"):
                self.assert_none((head, what, 0))

    def test_length(self):
        for value in ((), ("int",), ("int", ()), ("int", (), 0, 0), ("ref", (INT,), 0, ())):
            self.assert_none(value)

    def test_junk(self):
        for value in JUNK + (deep(200), "bool"):
            self.assertIs(is_kind(value, 3), value == INT and value[2] is not False)

    def test_junk_in_any_place(self):
        for path in places(WHOLE):
            for value in JUNK:
                changed = replace(WHOLE, path, value)
                self.assertIs(is_kind(changed, 2), has_form(changed, 2))
        self.assert_kind(replace(WHOLE, (1, 0), INT))
        self.assert_kind(replace(WHOLE, (1, 0, 1, 1, 1), 1))
        self.assertEqual(part_at(WHOLE, (1, 0, 1, 1)), ("data", 0, 0))

    def test_kinds_of_trees_with_kinds(self):
        tree = with_kinds(read_program(main_text("(add 1 2)", before="(data d (C d int)) (data e (D (ref d)))")))
        for _, constructors in tree[0]:
            for _, fields in constructors:
                for field in fields:
                    self.assert_kind(field, 2)


class FieldKindsTest(unittest.TestCase):
    TEXT = "(data list (Nil) (Cons int list)) (data box (Box (ref list))) " + main_text("1")

    def test_tree(self):
        datas = read_program(self.TEXT)[0]
        self.assertEqual(field_kinds(datas, 0), [(), (INT, ("data", "list", 0))])
        self.assertEqual(field_kinds(datas, 1), [(("ref", (("data", "list", 0),), 0),)])

    def test_tree_with_kinds(self):
        datas = with_kinds(read_program(self.TEXT))[0]
        self.assertEqual(field_kinds(datas, 0), [(), (INT, ("data", 0, 0))])
        self.assertEqual(field_kinds(datas, 1), [(("ref", (("data", 0, 0),), 0),)])

    def test_the_list_is_new(self):
        datas = read_program(self.TEXT)[0]
        self.assertIsInstance(field_kinds(datas, 0), list)
        field_kinds(datas, 0).append(1)
        self.assertEqual(len(field_kinds(datas, 0)), 2)


if __name__ == "__main__":
    unittest.main()
