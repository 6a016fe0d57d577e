import unittest

from escheat.errors import KindError
from escheat.kinds import kind_size, with_kinds
from escheat.words import read_program, write_program
from tests.helpers import (
    FIRST, INT, JUNK, ONE, change_indexes, deep, drop_indexes, kind_fault, main_text, part_at, places, replace, tree_of,
)
from tests.test_write import WHOLE

# Small enough to put every value into every place.
TEXTS = (
    "(data list (Nil) (Cons int list)) (exception lost)\n"
    "(fun length ((xs list)) int (case xs ((Nil) 0) ((Cons x rest) (add 3 (length rest)))))\n"
    "(fun main ((n int)) int (handle (raise lost int n) (lost x (let f (fn (y int) y) (apply f 2)))))\n",
    "(fun main () int (let a (array 2 (tuple 1 true)) "
    "(seq (put a 0 (tuple 2 false)) (if (get 1 (at a 1)) 3 (len a)))))",
    "(data d (D (ref (fn int bool)))) (fun main () int (let r (ref unit) (seq (set r (print 1)) (seq (deref r) 4))))",
)


def result_of(tree):
    """The tree with kinds, or the error's index."""
    try:
        return with_kinds(tree)
    except KindError as error:
        return error.at


def nested_tuple(levels):
    """A tuple of tuples, as deep as a value may be, with the shape of expressions."""
    value = ONE
    while levels > 0:
        value = ("seq", 3, None, (value, ONE), ())
        levels -= 2
    return value


class AnyValueTest(unittest.TestCase):
    def test_no_tree(self):
        large = (((),) * 99999, ("a",) * 99999, "x" * 9999)
        for value in JUNK + large + (deep(200), (deep(198),) * 3, nested_tuple(190)):
            self.assertEqual(result_of(value), 0)

    def test_deep_bodies(self):
        self.assertEqual(result_of(tree_of(nested_tuple(180))), 0)
        body = ONE
        for _ in range(60):
            body = ("handle", 3, None, (ONE,), (("Div", ("x",), body),))
        self.assertEqual(result_of(tree_of(body)), 0)

    def test_any_value_in_any_place(self):
        for text in TEXTS:
            tree = read_program(text)
            right = with_kinds(tree)
            for path in places(tree):
                for value in JUNK:
                    self.check_changed(tree, right, path, value)

    def check_changed(self, tree, right, path, value):
        changed = replace(tree, path, value)
        found = result_of(changed)
        if isinstance(found, tuple):
            # It is a right tree: it is written, read and accepted again, with equal kinds.
            self.assertEqual(with_kinds(read_program(write_program(changed))), found)
            if value == part_at(tree, path) or self.is_index(tree, path):
                self.assertEqual(found, right)
        else:
            self.assertIs(type(found), int)

    def is_index(self, tree, path):
        """Tell whether the path leads to an integer of a function or an expression that is not its info."""
        return path[-1] == 1 and type(part_at(tree, path)) is int

    def test_any_index_in_any_place(self):
        for text in TEXTS:
            tree = read_program(text)
            right = with_kinds(tree)
            changed = 0
            for path in places(tree):
                if path and self.is_index(tree, path):
                    changed += 1
                    for value in (0, -1, 10 ** 5000):
                        self.assertEqual(with_kinds(replace(tree, path, value)), right)
                    for value in (True, False, None, "1", (), (1,)):
                        self.assertEqual(result_of(replace(tree, path, value)), 0)
            self.assertGreater(changed, 10)

    def test_right_trees_are_not_modified(self):
        for text in TEXTS + (WHOLE,):
            tree = read_program(text)
            with_kinds(tree)
            write_program(tree)
            self.assertEqual(tree, read_program(text))

    def test_whole_language(self):
        tree = with_kinds(read_program(WHOLE))
        self.assertEqual([function[0] for function in tree[2]],
                         ["length", "none", "both", "tell", "make", "change", "catch", "plain", "main"])

        def walk(expression):
            self.assertEqual(len(expression), 5)
            self.assertLessEqual(kind_size(expression[1]), 32)
            for part in expression[3] + tuple(arm[2] for arm in expression[4]):
                walk(part)

        for function in tree[2]:
            self.assertEqual(len(function), 4)
            self.assertEqual(function[3][1], function[2])
            walk(function[3])


class SameFormTest(unittest.TestCase):
    """A tree with kinds has the form of the tree, with the differences that the document lists."""

    def check_expression(self, tree, typed, names):
        op, _, info, kids, arms = tree
        self.assertEqual((typed[0], len(typed[3]), len(typed[4])), (op, len(kids), len(arms)))
        self.assertEqual(typed[2], self.wanted_info(op, info, names))
        for kid, typed_kid in zip(kids, typed[3]):
            self.check_expression(kid, typed_kid, names)
        arms = [(names[arm[0]], arm[1], arm[2]) for arm in arms]
        if op == "case":
            arms = sorted(arms, key=lambda arm: arm[0])
        for (number, variables, body), typed_arm in zip(arms, typed[4]):
            self.assertEqual(typed_arm[:2], (number, variables))
            self.check_expression(body, typed_arm[2], names)

    def wanted_info(self, op, info, names):
        if op in ("call", "make"):
            return names[op, info]
        if op == "raise":
            return names[info[0]]
        if op == "fn":
            return (info[0], self.wanted_kind(info[1], names))
        return info

    def wanted_kind(self, kind, names):
        head, what, _ = kind
        if head == "data":
            return (head, names["data", what], 0)
        return (head, tuple(self.wanted_kind(part, names) for part in what), 0)

    def names_of(self, tree):
        names = {name: number for number, name in enumerate(tree[1])}
        for number, (data, constructors) in enumerate(tree[0]):
            names["data", data] = number
            for index, (constructor, _) in enumerate(constructors):
                names[constructor] = names["make", constructor] = index
        names.update({("call", function[0]): number for number, function in enumerate(tree[2])})
        return names

    def test_same_form(self):
        for text in TEXTS + (WHOLE,):
            tree = read_program(text)
            datas, exceptions, functions = with_kinds(tree)
            names = self.names_of(tree)
            self.assertEqual(exceptions, tree[1])
            for (name, _, parameters, result, body), typed in zip(tree[2], functions, strict=True):
                kinds = tuple((parameter, self.wanted_kind(kind, names)) for parameter, kind in parameters)
                self.assertEqual(typed[:3], (name, kinds, self.wanted_kind(result, names)))
                self.check_expression(body, typed[3], names)
            wanted = tuple((data, tuple(
                (constructor, tuple(self.wanted_kind(field, names) for field in fields))
                for constructor, fields in constructors)) for data, constructors in tree[0])
            self.assertEqual(datas, wanted)


class IndependenceTest(unittest.TestCase):
    # Texts with other names for the same variables.
    RENAMED = (
        ("(let x 1 (let y x (add x y)))", "(let y 1 (let x y (add y x)))"),
        ("(let n 1 (let n (add n 1) n))", "(let a 1 (let b (add a 1) b))"),
        ("(case (D 1 true) ((D a b) (if b a 0)))", "(case (D 1 true) ((D b a) (if a b 0)))"),
        ("(apply (fn (x int) (apply (fn (y int) (add x y)) 1)) 2)",
         "(apply (fn (y int) (apply (fn (x int) (add y x)) 1)) 2)"),
        ("(handle (raise Div int 1) (Div e (let f e f)))", "(handle (raise Div int 1) (Div main (let d main d)))"),
        ("(let x true (add x 1))", "(let y true (add y 1))"),
        ("(let x 1 (if x 1 2))", "(let main 1 (if main 1 2))"),
        ("(case (D 1 true) ((D a b) b))", "(case (D 1 true) ((D b a) a))"),
        ("(fn (x int) x)", "(fn (y int) y)"),
    )

    def typed(self, body):
        return read_program(main_text(body, before="(data d (D int bool))"))

    def without_names(self, expression):
        """An expression with kinds, with the depth of the binding in the place of each variable."""
        def walk(part, scope):
            op, kind, info, kids, arms = part
            if op == "name":
                info = len(scope) - scope[::-1].index(info)
            if op == "let":
                kids = (walk(kids[0], scope), walk(kids[1], scope + [info]))
                return (op, kind, None, kids, ())
            if op == "fn":
                return (op, kind, info[1], (walk(kids[0], scope + [info[0]]),), ())
            arms = tuple((name, len(names), walk(body, scope + list(names))) for name, names, body in arms)
            return (op, kind, info, tuple(walk(kid, scope) for kid in kids), arms)

        return walk(expression, [])

    def test_names_of_variables(self):
        faults = 0
        for first, second in self.RENAMED:
            with self.subTest(first):
                first, second = self.typed(first), self.typed(second)
                one, other = result_of(first), result_of(second)
                if isinstance(one, int):
                    faults += 1
                    self.assertIsInstance(other, int)
                else:
                    self.assertEqual(self.without_names(one[2][0][3]), self.without_names(other[2][0][3]))
        self.assertEqual(faults, 4)

    def test_names_of_parameters(self):
        first = read_program("(fun f ((a int) (b bool)) int (if b a 0)) (fun main ((a int)) int (f a true))")
        second = read_program("(fun f ((b int) (a bool)) int (if a b 0)) (fun main ((f int)) int (f f true))")
        one, other = with_kinds(first), with_kinds(second)
        self.assertEqual([[kind for _, kind in function[1]] for function in one[2]],
                         [[kind for _, kind in function[1]] for function in other[2]])

    def test_indexes(self):
        for text in TEXTS + (WHOLE,):
            tree = read_program(text)
            self.assertEqual(with_kinds(tree), with_kinds(drop_indexes(tree)))
            self.assertEqual(with_kinds(tree), with_kinds(change_indexes(tree, lambda at: 7 - at)))

    def test_indexes_of_refused_trees(self):
        for body in ("x", "(add true 1)", "(case 1 ((C) 2))", "(f)", "(get 2 (tuple 1 2))"):
            tree = read_program(main_text(body))
            at = kind_fault(tree)
            self.assertIsNotNone(at)
            self.assertEqual(kind_fault(drop_indexes(tree)), 0)
            self.assertEqual(kind_fault(change_indexes(tree, lambda index: 10 ** 5000 + index)), 10 ** 5000 + at)
            self.assertEqual(kind_fault(change_indexes(tree, lambda index: -index)), -at)

    def test_equal_indexes(self):
        body = ("add", 4, None, (("int", 4, 1, (), ()), ("bool", 4, True, (), ())), ())
        self.assertEqual(kind_fault(tree_of(body)), 4)
        self.assertEqual(kind_fault(((), FIRST, (("main", 1, (), INT, ("bool", 0, True, (), ())),))), 0)


if __name__ == "__main__":
    unittest.main()
