import unittest

from escheat.kinds import with_kinds
from escheat.words import read_program
from tests.helpers import BOOL, FIRST, INT, UNIT, deep, kind_fault, tree_of

ONE = ("int", 7, 1, (), ())
MAIN = ("main", 5, (), INT, ONE)
LIST = ("data", "list", 0)


def make_tree(*, datas=(), exceptions=FIRST, functions=(MAIN,)):
    return (datas, exceptions, functions)


def refs(levels, kind=INT):
    for _ in range(levels):
        kind = ("ref", (kind,), 0)
    return kind


class DeclarationTest(unittest.TestCase):
    def assert_right(self, *trees):
        for tree in trees:
            self.assertIsNone(kind_fault(tree), tree)

    def assert_refused(self, *trees):
        """Every index in these trees is another number than 0."""
        for tree in trees:
            with self.subTest(tree):
                self.assertEqual(kind_fault(tree), 0)

    def assert_refused_bodies(self, *bodies):
        self.assert_refused(*[tree_of(body) for body in bodies])

    def assert_refused_functions(self, *functions):
        self.assert_refused(*[make_tree(functions=(function, MAIN)) for function in functions])


class FormTest(DeclarationTest):
    def test_right(self):
        self.assert_right(make_tree())

    def test_no_tree_at_all(self):
        self.assert_refused(None, True, False, 0, 5, "", "tree", (), deep(200), (1, 2, 3), ((), FIRST),
            ("", FIRST, (MAIN,)))

    def test_parts_of_a_tree(self):
        self.assert_refused(
            make_tree() + ((),), make_tree()[:2], make_tree(datas=None), make_tree(datas="ab"),
            make_tree(exceptions=None),
            make_tree(exceptions="abc"), make_tree(functions=None), make_tree(functions="main"),
        )

    def test_form_of_data_declarations(self):
        self.assert_right(make_tree(datas=(("d", (("C", ()),)),)))
        for data in (None, "dC", (), ("d",), ("d", (("C", ()),), ()), ("d", None), ("d", "C"), ("d", (None,)),
                     ("d", ("CD",)), ("d", (("C",),)), ("d", (("C", (), ()),)), ("d", (("C", None),)),
                     ("d", (("C", "a"),))):
            self.assert_refused(make_tree(datas=(data,)))

    def test_form_of_functions(self):
        f = ("f", 3, (), INT, ONE)
        self.assert_right(make_tree(functions=(f, MAIN)))
        self.assert_refused_functions(
            None, "f", (), f[:4], f + ((),), ("f", 3, None, INT, ONE), ("f", 3, "a", INT, ONE),
            ("f", 3, (None,), INT, ONE),
            ("f", 3, ("ab",), INT, ONE), ("f", 3, (("x",),), INT, ONE), ("f", 3, (("x", INT, 0),), INT, ONE),
        )

    def test_indexes(self):
        for at in (True, False, None, "5", (), (5,)):
            self.assert_refused(tree_of(("int", at, 1, (), ())), make_tree(functions=(("main", at, (), INT, ONE),)))
        for at in (0, -5, 10 ** 5000):
            self.assert_right(tree_of(("int", at, 1, (), ())), make_tree(functions=(("main", at, (), INT, ONE),)))

    def test_form_of_expressions(self):
        arm = ("Div", ("x",), ONE)
        self.assert_right(tree_of(("handle", 5, None, (ONE,), (arm,))))
        self.assert_refused_bodies(
            None, "int", 7, True, (), ONE[:4], ONE + ((),), ("int", 5, 1, None, ()), ("int", 5, 1, (), None),
            ("int", 5, 1, "", ()), ("int", 5, 1, (), ""), ("int", 5, 1, (), (None,)), ("int", 5, 1, (), ("abc",)),
            ("handle", 5, None, (ONE,), (arm[:2],)), ("handle", 5, None, (ONE,), (arm + (1,),)),
            ("handle", 5, None, (ONE,), (("Div", None, ONE),)), ("handle", 5, None, (ONE,), (("Div", "x", ONE),)),
            ("handle", 5, None, (ONE,), (("Div", ("x",), None),)), ("ref", 5, None, (None,), ()),
        )

    def test_form_is_asked_of_inner_expressions_first(self):
        # The first kid alone is an error at 9.
        wrong = ("name", 9, "y", (), ())
        self.assertEqual(kind_fault(tree_of(("seq", 5, None, (wrong, ONE), ()))), 9)
        self.assert_refused_bodies(("seq", 5, None, (wrong, None), ()),
            ("seq", 5, None, (wrong, ("int", True, 1, (), ())), ()))

    def test_form_is_asked_of_later_functions_first(self):
        wrong = ("f", 3, (), INT, ("name", 9, "y", (), ()))
        self.assertEqual(kind_fault(make_tree(functions=(wrong, MAIN))), 9)
        self.assert_refused(make_tree(functions=(wrong, ("main", 5, (), INT, None))))

    def test_ops_are_strings(self):
        for op in (None, 5, True, (), ("int",)):
            self.assert_refused_bodies((op, 5, 1, (), ()))

    def test_info(self):
        for info in (None, 5, True, "", "X", "add", "abcdefghijklm", "a-", ("x",)):
            self.assert_refused_bodies(("let", 5, info, (ONE, ONE), ()), ("fn", 5, (info, INT), (ONE,), ()))
        for info in (None, "xy", 5, (), ("x",), ("x", INT, 0)):
            self.assert_refused_bodies(("fn", 5, info, (ONE,), ()))
        for info in (None, "xy", 5, (), ("Div",), ("Div", INT, 0)):
            self.assert_refused_bodies(("raise", 5, info, (ONE,), ()))

    def test_what_else_an_expression_has_is_checked_with_its_body(self):
        for body in (
            ("int", 9, None, (), ()), ("name", 9, None, (), ()), ("name", 9, "X", (), ()), ("call", 9, ("f",), (), ()),
            ("make", 9, 5, (), ()), ("get", 9, "0", (("tuple", 3, None, (ONE, ONE), ()),), ()),
            ("unit", 9, deep(90), (), ()),
            ("raise", 9, (None, None), (ONE,), ()), ("fn", 9, ("x", None), (ONE,), ()), ("other", 9, None, (), ()),
            ("handle", 8, None, (ONE,), ((deep(90), ("x",), ("int", 9, 1, (), ())),)),
        ):
            with self.subTest(body[0]):
                self.assertEqual(kind_fault(tree_of(body)), 9)

    def test_variables_of_arms(self):
        for variable in (None, 5, True, "", "X", "add", "abcdefghijklm", ("x",)):
            self.assert_refused_bodies(
                ("handle", 5, None, (ONE,), (("Div", (variable,), ONE),)),
                ("int", 5, 1, (), (("Div", ("x", variable), ONE),)),
            )


class NameTest(DeclarationTest):
    SMALL = ("a", "z0_", "abcdefghijkl", "name", "call", "make")
    NO_SMALL = (None, 5, True, (), "", "A", "aB", "_a", "0", "add", "int", "abcdefghijklm", "a-", "a ", "\xe4", "a%",
        "Div")
    NO_GREAT = (None, 5, True, (), "", "a", "_A", "0", "Abcdefghijklm", "A-", "\xc4")

    def test_small_names(self):
        for name in self.SMALL:
            self.assert_right(
                make_tree(datas=((name, (("C", ()),)),)), make_tree(exceptions=FIRST + (name,)),
                make_tree(functions=((name, 3, (), INT, ONE), MAIN)),
                make_tree(functions=(("main", 3, ((name, INT),), INT, ONE),)),
                tree_of(("let", 5, name, (ONE, ONE), ())),
            )

    def test_no_small_names(self):
        for name in self.NO_SMALL:
            self.assert_refused(
                make_tree(datas=((name, (("C", ()),)),)), make_tree(exceptions=FIRST + (name,)),
                make_tree(functions=((name, 3, (), INT, ONE), MAIN)),
                make_tree(functions=(("main", 3, ((name, INT),), INT, ONE),)),
                tree_of(("let", 5, name, (ONE, ONE), ())),
            )

    def test_great_names(self):
        for name in ("A", "Az_0", "AB", "Abcdefghijkl", "Div"):
            self.assert_right(make_tree(datas=(("d", ((name, ()),)),)))
        for name in self.NO_GREAT:
            self.assert_refused(make_tree(datas=(("d", ((name, ()),)),)))


class SizeTest(DeclarationTest):
    def test_four_hundred_expressions(self):
        def tree(many):
            # Each function has three expressions; the main function has the rest.
            pair = ("add", 2, None, (ONE, ONE), ())
            count = (many - 1) // 3
            functions = tuple((f"f{index}", 3, (), INT, pair) for index in range(count))
            rest = many - 3 * count
            body = {1: ONE, 2: ("deref", 2, None, (ONE,), ()), 3: pair}[rest]
            return make_tree(functions=functions + (("main", 3, (), INT, body),))

        self.assert_right(tree(400))
        # Its last body has another kind of error at 7.
        self.assertEqual(kind_fault(tree(398)), 7)
        self.assert_refused(tree(401), tree(402), tree(500))

    def test_expressions_in_arms_count(self):
        row = ("call", 2, "main", (ONE,) * 6, ())
        arms = tuple(("Div", ("x",), row) for _ in range(6))
        body = ("handle", 2, None, (row,), arms)
        # 50 expressions each.
        functions = tuple((f"f{index}", 3, (), INT, body) for index in range(8))
        self.assert_refused(make_tree(functions=functions + (MAIN,)))
        self.assertNotEqual(kind_fault(make_tree(functions=functions[1:] + (MAIN,))), 0)

    def test_twelve_levels(self):
        def nested(levels, inner=ONE):
            for _ in range(levels - 1):
                inner = ("add", 2, None, (inner, ONE), ())
            return inner

        self.assert_right(tree_of(nested(12)))
        self.assert_refused(tree_of(nested(13)), tree_of(nested(50)))

    def test_arms_are_levels(self):
        def nested(levels):
            body = ONE
            for _ in range(levels - 1):
                body = ("handle", 2, None, (ONE,), (("Div", ("x",), body),))
            return body

        self.assert_right(tree_of(nested(12)))
        self.assert_refused(tree_of(nested(13)))

    def test_a_deep_first_function(self):
        body = ONE
        for _ in range(12):
            body = ("seq", 2, None, (ONE, body), ())
        self.assert_refused_functions(("f", 3, (), INT, body))

    def test_large_values(self):
        names = tuple(f"e{index}" for index in range(20000))
        self.assert_right(make_tree(exceptions=FIRST + names))
        self.assert_right(make_tree(datas=tuple((f"d{index}", ((f"C{index}", ()),)) for index in range(5000))))
        self.assert_refused(make_tree(functions=(MAIN,) * 9000), tree_of(("tuple", 2, None, (ONE,) * 9000, ())))


class DataTest(DeclarationTest):
    def data(self, *fields):
        return make_tree(datas=(("a", (("A", ()),)), ("list", (("Nil", ()), ("Cons", fields))), ("z", (("Z", ()),))))

    def test_distinct_names(self):
        self.assert_refused(
            make_tree(datas=(("d", (("C", ()),)), ("d", (("D", ()),)))),
            make_tree(datas=(("d", (("C", ()),)), ("e", (("D", ()), ("C", ()))))),
            make_tree(datas=(("d", (("C", ()), ("C", (INT,)))),)),
        )

    def test_number_of_constructors(self):
        constructors = tuple((f"C{index}", ()) for index in range(9))
        self.assert_right(make_tree(datas=(("d", constructors[:1]),)), make_tree(datas=(("d", constructors[:8]),)))
        self.assert_refused(make_tree(datas=(("d", ()),)), make_tree(datas=(("d", constructors),)))

    def test_number_of_fields(self):
        self.assert_right(self.data(), self.data(*[INT] * 6))
        self.assert_refused(self.data(*[INT] * 7))

    def test_fields_name_their_own_and_earlier_declarations(self):
        self.assert_right(self.data(LIST), self.data(("data", "a", 0)),
            self.data(("ref", (("fn", (LIST, INT), 0),), 0)))
        self.assert_refused(
            self.data(("data", "z", 0)), self.data(("ref", (("data", "z", 0),), 0)), self.data(("data", "none", 0)),
        )

    def test_fields_are_valid_kinds(self):
        self.assert_refused(
            self.data(None), self.data(refs(32)), self.data(("int", (), 1)), self.data(("data", 0, 0)),
            self.data(("tuple", (INT,) * 7, 0)),
        )


class ValidKindTest(DeclarationTest):
    def places(self, kind):
        """Trees in which this kind stands in each of the places that the declarations have."""
        datas = (("list", (("Nil", ()),)),)
        raising = ("raise", 7, ("Div", kind), (ONE,), ())
        return (
            make_tree(datas=datas + (("d", (("C", (INT, kind)),)),)),
            make_tree(datas=datas, functions=(("f", 3, (("x", INT), ("y", kind)), INT, ONE), MAIN)),
            make_tree(datas=datas, functions=(("f", 3, (), kind, raising), MAIN)),
        )

    def test_valid(self):
        for kind in (INT, BOOL, UNIT, LIST, ("tuple", (INT, LIST), 0), ("tuple", (INT,) * 6, 0), ("fn", (INT, LIST), 0),
                     ("ref", (INT,), 0), ("array", (LIST,), 0)):
            self.assert_right(*self.places(kind))

    def test_nodes(self):
        self.assert_right(*self.places(refs(31)))
        self.assert_refused(*self.places(refs(32)), *self.places(refs(90)))
        five = ("tuple", (INT,) * 4, 0)
        self.assert_right(*self.places(("tuple", (five,) * 6, 0)))
        self.assert_right(*self.places(("tuple", (("ref", (five,), 0),) + (five,) * 5, 0)))
        self.assert_refused(*self.places(("tuple", (("ref", (("ref", (five,), 0),), 0),) + (five,) * 5, 0)))

    def test_no_kinds(self):
        for kind in (
            None, True, 5, "int", (), ("int",), ("int", ()), ("int", (), 0, 0), ("int", None, 0), ("int", (INT,), 0),
            ("int", (), 1), ("int", (), False), ("int", (), None), ("list", (), 0), ("Int", (), 0), (None, (), 0),
            (deep(90), (), 0),
            ("tuple", (), 0), ("tuple", (INT,), 0), ("tuple", (INT,) * 7, 0), ("tuple", "ab", 0), ("fn", (INT,), 0),
            ("fn", (INT, INT, INT), 0), ("ref", (), 0), ("ref", (INT, INT), 0), ("ref", INT, 0), ("array", (), 0),
            ("array", (INT, INT), 0), ("data", "none", 0), ("data", 0, 0), ("data", None, 0), ("data", "list", 1),
            ("data", "list", False), ("data", ("list",), 0), ("data", deep(90), 0), ("ref", (("int", (), False),), 0),
            deep(100),
        ):
            self.assert_refused(*self.places(kind))


class ExceptionTest(DeclarationTest):
    def test_the_first_three(self):
        self.assert_right(make_tree(exceptions=FIRST), make_tree(exceptions=FIRST + ("a", "b")))
        self.assert_refused(
            make_tree(exceptions=()), make_tree(exceptions=("Div", "Index")),
            make_tree(exceptions=("Div", "Size", "Index")),
            make_tree(exceptions=("a",) + FIRST), make_tree(exceptions=("Div", "Index", "size")),
        )

    def test_distinct(self):
        self.assert_refused(make_tree(exceptions=FIRST + ("a", "b", "a")), make_tree(exceptions=FIRST + ("Div",)))

    def test_names(self):
        self.assert_refused(make_tree(exceptions=FIRST + ("E",)), make_tree(exceptions=FIRST + (None,)),
                            make_tree(exceptions=FIRST + (deep(90),)))


class FunctionTest(DeclarationTest):
    def test_there_is_one(self):
        self.assert_refused(make_tree(functions=()))

    def test_distinct_names(self):
        f = ("f", 3, (), INT, ONE)
        self.assert_refused(make_tree(functions=(f, f, MAIN)), make_tree(functions=(MAIN, MAIN)))

    def test_parameters(self):
        six = tuple((letter, BOOL) for letter in "abcdef")
        self.assert_right(make_tree(functions=(("f", 3, six, INT, ONE), MAIN)))
        self.assert_refused_functions(
            ("f", 3, six + (("g", INT),), INT, ONE), ("f", 3, (("a", INT), ("b", INT), ("a", INT)), INT, ONE),
        )

    def test_the_last_one_is_main(self):
        f = ("f", 3, (), INT, ONE)
        three = (("a", INT), ("b", INT), ("c", INT))
        self.assert_right(make_tree(functions=(("main", 3, three, INT, ONE),)))
        self.assert_refused(
            make_tree(functions=(f,)), make_tree(functions=(MAIN, f)),
            make_tree(functions=(("main", 3, three + (("d", INT),), INT, ONE),)),
            make_tree(functions=(("main", 3, (("a", BOOL),), INT, ONE),)),
            make_tree(functions=(("main", 3, (("a", INT), ("b", ("ref", (INT,), 0))), INT, ONE),)),
            make_tree(functions=(("main", 3, (), BOOL, ("bool", 3, True, (), ())),)),
            make_tree(functions=(("main", 3, (), UNIT, ONE),)),
        )


class ResultTest(unittest.TestCase):
    def test_data_declarations_have_numbers_in_kinds(self):
        text = (
            "(data a (A)) (data list (Nil) (Cons a list)) (exception e)"
            "(fun f ((x list) (y (ref a))) (fn a list) (raise e (fn a list) 0)) (fun main ((n int)) int n)"
        )
        first = ("data", 0, 0)
        second = ("data", 1, 0)
        closure = ("fn", (first, second), 0)
        self.assertEqual(with_kinds(read_program(text)), (
            (("a", (("A", ()),)), ("list", (("Nil", ()), ("Cons", (first, second))))),
            ("Div", "Index", "Size", "e"),
            (
                ("f", (("x", second), ("y", ("ref", (first,), 0))), closure,
                 ("raise", closure, 3, (("int", INT, 0, (), ()),), ())),
                ("main", (("n", INT),), INT, ("name", INT, "n", (), ())),
            ),
        ))

    def test_names_of_different_sorts_may_be_equal(self):
        text = (
            "(data same (Same)) (exception same) (fun same ((same same)) same same)"
            "(fun main () int (seq (same (Same)) (raise same int 1)))"
        )
        self.assertEqual(with_kinds(read_program(text))[2][1][3][3][0][2], 0)


if __name__ == "__main__":
    unittest.main()
