import unittest

from escheat.words import read_program, same_tree
from tests.helpers import FIRST, INT, JUNK, change_indexes, deep, drop_indexes, part_at, places, replace, tree_of

TEXT = (
    "(data list (Nil) (Cons int list)) (exception lost)\n"
    "(fun length ((xs list)) int (case xs ((Nil) 0) ((Cons x rest) (add 3 (length rest)))))\n"
    "(fun main ((n int)) int (handle (raise lost int n) (lost x (let f (fn (y int) y) (apply f 2)))))\n"
)
TREE = read_program(TEXT)


def index_places(tree):
    """The paths of all indexes of a right tree."""
    def inner(expression, path):
        yield path + (1,)
        for number, kid in enumerate(expression[3]):
            yield from inner(kid, path + (3, number))
        for number, arm in enumerate(expression[4]):
            yield from inner(arm[2], path + (4, number, 2))

    for number, function in enumerate(tree[2]):
        yield (2, number, 1)
        yield from inner(function[4], (2, number, 4))


class SameTreeTest(unittest.TestCase):
    def assert_same(self, first, second):
        self.assertIs(same_tree(first, second), True)
        self.assertIs(same_tree(second, first), True)

    def assert_different(self, first, second):
        self.assertIs(same_tree(first, second), False)
        self.assertIs(same_tree(second, first), False)

    def test_equal_trees(self):
        self.assert_same(TREE, read_program(TEXT))

    def test_other_indexes(self):
        self.assertNotEqual(TREE, drop_indexes(TREE))
        self.assert_same(TREE, drop_indexes(TREE))
        self.assert_same(TREE, change_indexes(TREE, lambda at: -at - 10 ** 5000))
        self.assert_same(TREE, read_program(TEXT.replace(" ", "\n ")))

    def test_each_index(self):
        paths = list(index_places(TREE))
        # Two functions, and 16 expressions.
        self.assertEqual(len(paths), 18)
        for path in paths:
            self.assert_same(TREE, replace(TREE, path, 99999))

    def test_what_is_no_index(self):
        for path in index_places(TREE):
            for value in (None, "5", (), True, (5,)):
                self.assert_different(TREE, replace(TREE, path, value))

    def test_each_other_place(self):
        indexes = set(index_places(TREE))
        for path in places(TREE):
            for value in JUNK + (part_at(TREE, path),):
                changed = replace(TREE, path, value)
                self.assert_same(changed, changed)
                if path not in indexes:
                    self.assertIs(same_tree(TREE, changed), value == part_at(TREE, path))

    def test_texts_that_differ_in_one_part(self):
        changes = (
            ("data list", "data lost"), ("(Nil) (Cons", "(Nul) (Cons"), ("Cons int list", "Cons int bool"),
            ("exception lost", "exception last"), ("fun length", "fun longer"), ("((xs list))", "((ys list))"),
            ("((xs list))", "((xs int))"), ("((xs list)) int", "((xs list)) bool"), ("((n int))", "()"),
            ("case xs", "case ys"), ("((Nil) 0)", "((Nil) 1)"), ("((Nil) 0)", "((None) 0)"),
            ("((Nil) 0)", "((Nil z) 0)"),
            (" ((Nil) 0)", ""), ("Cons x rest", "Cons x more"), ("add 3", "sub 3"), ("add 3", "add x"),
            ("length rest", "length"), ("length rest", "longer rest"), ("raise lost", "raise Div"),
            ("lost int n", "lost unit n"), ("(lost x", "(Div x"), ("(lost x", "(lost y"), ("let f", "let g"),
            ("(y int)", "(z int)"), ("(y int)", "(y bool)"), ("(y int) y", "(y int) f"), ("apply f 2", "apply f 4"),
        )
        for old, new in changes:
            with self.subTest(new):
                self.assertEqual(TEXT.count(old), 1)
                self.assert_different(TREE, read_program(TEXT.replace(old, new)))

    def test_different_numbers_of_declarations(self):
        self.assert_different(TREE, read_program("(exception new)" + TEXT))
        self.assert_different(TREE, read_program("(fun f () int 1)" + TEXT))
        self.assert_different(TREE, read_program("(data d (C))" + TEXT))

    def test_order_matters(self):
        first = read_program("(fun f () int 1)(fun g () int 1)(fun main () int 1)")
        second = read_program("(fun g () int 1)(fun f () int 1)(fun main () int 1)")
        self.assert_different(first, second)

    def test_different_numbers_of_kids_and_arms(self):
        one = ("int", 0, 1, (), ())
        arm = ("e", ("x",), one)
        trees = [
            tree_of(("call", 0, "f", (), ())),
            tree_of(("call", 0, "f", (one,), ())),
            tree_of(("call", 0, "f", (one, one), ())),
            tree_of(("call", 0, "f", (one,), (arm,))),
            tree_of(("call", 0, "f", (one,), (arm, arm))),
            tree_of(("call", 0, "f", (), (arm,))),
        ]
        for number, first in enumerate(trees):
            for other, second in enumerate(trees):
                self.assertIs(same_tree(first, second), number == other)

    def test_values_that_are_no_trees(self):
        values = (None, True, 3, "a", (), (1, 2), ((), ()), (1, 2, 3), (None, None, None), deep(200), deep(199), TREE)
        for number, first in enumerate(values):
            for other, second in enumerate(values):
                self.assertIs(same_tree(first, second), number == other)

    def test_parts_that_are_no_trees_are_compared_as_they_are(self):
        with_junk = tree_of(("call", 3, "f", (None, (1, 2), ("int", 4, 5, (), ())), ()))
        moved = tree_of(("call", 9, "f", (None, (1, 2), ("int", 8, 5, (), ())), ()))
        self.assert_same(with_junk, moved)
        # Four parts are no expression, so the number in it is no index.
        self.assert_different(tree_of(("int", 4, 5, ())), tree_of(("int", 8, 5, ())))
        self.assert_different(tree_of(("int", 4, 5, (), 0)), tree_of(("int", 8, 5, (), 0)))
        self.assert_different(tree_of(("int", 4, 5, None, ())), tree_of(("int", 8, 5, None, ())))
        self.assert_different(((), FIRST, (("f", 4, ()),)), ((), FIRST, (("f", 5, ()),)))
        self.assert_different(("int", 4, 5, (), ()), ("int", 8, 5, (), ()))

    def test_a_body_of_any_form(self):
        self.assert_same(((), FIRST, (("f", 4, (), INT, None),)), ((), FIRST, (("f", 5, (), INT, None),)))
        self.assert_different(((), FIRST, (("f", 4, (), INT, None),)), ((), FIRST, (("f", 5, (), INT, ()),)))

    def test_deep_expressions(self):
        first = second = ("int", 1, 7, (), ())
        for level in range(90):
            first = ("ref", level, None, (first,), ())
            second = ("ref", level + 1, None, (second,), ())
        self.assert_same(tree_of(first), tree_of(second))
        self.assert_different(tree_of(first), tree_of(second[3][0]))

    def test_a_large_value(self):
        one = ("int", 1, 7, (), ())
        two = ("int", 2, 7, (), ())
        self.assert_same(tree_of(("tuple", 0, None, (one,) * 10000, ())),
            tree_of(("tuple", 0, None, (two,) * 10000, ())))


if __name__ == "__main__":
    unittest.main()
