import unittest

from escheat.words import read_program
from tests.helpers import BOOL, FIRST, INT, UNIT, body_of, main_text, split_mark, text_fault


def name(at, word):
    return ("name", at, word, (), ())


def number(at, value):
    return ("int", at, value, (), ())


class ExpressionTest(unittest.TestCase):
    # The body of a main function without parameters begins at this index.
    START = 17

    def assert_body(self, written, wanted):
        """The wanted tree has indexes that count from the start of the written body."""
        text = main_text(written)
        self.assertEqual(text[self.START:-1], written)
        self.assertEqual(body_of(text), self.moved(wanted))

    def moved(self, expression):
        op, at, info, kids, arms = expression
        arms = tuple((arm, variables, self.moved(body)) for arm, variables, body in arms)
        return (op, at + self.START, info, tuple(self.moved(kid) for kid in kids), arms)

    def test_words(self):
        self.assert_body("0", number(0, 0))
        self.assert_body("-2147483648", number(0, -2147483648))
        self.assert_body("2147483647", number(0, 2147483647))
        self.assert_body("true", ("bool", 0, True, (), ()))
        self.assert_body("false", ("bool", 0, False, (), ()))
        self.assert_body("unit", ("unit", 0, None, (), ()))
        self.assert_body("x", name(0, "x"))
        self.assert_body("name", name(0, "name"))

    def test_booleans_are_booleans(self):
        self.assertIs(body_of(main_text("true"))[2], True)
        self.assertIs(body_of(main_text("false"))[2], False)

    def test_call(self):
        self.assert_body("(f)", ("call", 0, "f", (), ()))
        self.assert_body("(f x 1)", ("call", 0, "f", (name(3, "x"), number(5, 1)), ()))
        kids = tuple(number(3 + 2 * index, index) for index in range(6))
        self.assert_body("(f 0 1 2 3 4 5)", ("call", 0, "f", kids, ()))

    def test_names_of_ops_without_a_word_are_small_names(self):
        for word in ("name", "call", "make"):
            self.assert_body(f"({word} 1)", ("call", 0, word, (number(6, 1),), ()))

    def test_make(self):
        self.assert_body("(C)", ("make", 0, "C", (), ()))
        self.assert_body("(Cons 1 x)", ("make", 0, "Cons", (number(6, 1), name(8, "x")), ()))
        kids = tuple(number(3 + 2 * index, index) for index in range(6))
        self.assert_body("(C 0 1 2 3 4 5)", ("make", 0, "C", kids, ()))

    def test_tuple(self):
        self.assert_body("(tuple 1 x)", ("tuple", 0, None, (number(7, 1), name(9, "x")), ()))
        kids = tuple(number(7 + 2 * index, index) for index in range(6))
        self.assert_body("(tuple 0 1 2 3 4 5)", ("tuple", 0, None, kids, ()))

    def test_get(self):
        self.assert_body("(get 0 x)", ("get", 0, 0, (name(7, "x"),), ()))
        self.assert_body("(get 5 x)", ("get", 0, 5, (name(7, "x"),), ()))

    def test_let(self):
        self.assert_body("(let x 1 x)", ("let", 0, "x", (number(7, 1), name(9, "x")), ()))

    def test_if(self):
        kids = (("bool", 4, True, (), ()), number(9, 1), number(11, 2))
        self.assert_body("(if true 1 2)", ("if", 0, None, kids, ()))

    def test_case(self):
        arms = (("C", (), number(13, 1)), ("D", ("a", "b"), name(25, "a")))
        self.assert_body("(case x ((C) 1) ((D a b) a))", ("case", 0, None, (name(6, "x"),), arms))

    def test_case_with_eight_arms(self):
        written = "(case x" + "".join(f" ((C{index}) 1)" for index in range(8)) + ")"
        arms = tuple((f"C{index}", (), number(14 + 9 * index, 1)) for index in range(8))
        self.assert_body(written, ("case", 0, None, (name(6, "x"),), arms))

    def test_pattern_with_many_variables(self):
        variables = tuple("abcdefghijklmnopqrstuvwxyz")
        written = f"(case x ((C {' '.join(variables)}) 1))"
        wanted = ("case", 0, None, (name(6, "x"),), (("C", variables, number(65, 1)),))
        self.assert_body(written, wanted)

    def test_arms_may_name_the_same_twice(self):
        arms = (("C", (), number(13, 1)), ("C", (), number(21, 2)))
        self.assert_body("(case x ((C) 1) ((C) 2))", ("case", 0, None, (name(6, "x"),), arms))
        arms = (("e", ("a",), number(15, 1)), ("e", ("a",), number(23, 2)))
        self.assert_body("(handle x (e a 1) (e a 2))", ("handle", 0, None, (name(8, "x"),), arms))

    def test_fn(self):
        self.assert_body("(fn (x int) x)", ("fn", 0, ("x", INT), (name(12, "x"),), ()))

    def test_raise(self):
        self.assert_body("(raise Div int 1)", ("raise", 0, ("Div", INT), (number(15, 1),), ()))
        self.assert_body("(raise e bool 1)", ("raise", 0, ("e", BOOL), (number(14, 1),), ()))
        for word in ("Index", "Size"):
            self.assertEqual(body_of(main_text(f"(raise {word} unit 1)"))[2], (word, UNIT))

    def test_handle(self):
        self.assert_body("(handle 1)", ("handle", 0, None, (number(8, 1),), ()))
        arms = (("Div", ("x",), name(17, "x")), ("e", ("y",), number(25, 2)))
        self.assert_body("(handle 1 (Div x x) (e y 2))", ("handle", 0, None, (number(8, 1),), arms))

    def test_handle_with_six_arms(self):
        written = "(handle 1" + " (e x 2)" * 6 + ")"
        arms = tuple(("e", ("x",), number(15 + 8 * index, 2)) for index in range(6))
        self.assert_body(written, ("handle", 0, None, (number(8, 1),), arms))

    def test_one_kid(self):
        for op in ("ref", "deref", "len", "print"):
            self.assert_body(f"({op} x)", (op, 0, None, (name(len(op) + 2, "x"),), ()))

    def test_two_kids(self):
        ops = "apply set array at seq add sub mul div rem equal less"
        for op in ops.split():
            start = len(op) + 2
            self.assert_body(f"({op} x 1)", (op, 0, None, (name(start, "x"), number(start + 2, 1)), ()))

    def test_put(self):
        self.assert_body("(put x 1 y)", ("put", 0, None, (name(5, "x"), number(7, 1), name(9, "y")), ()))

    def test_separators_and_comments(self):
        self.assert_body("( add\t1;one\n\n2 )", ("add", 0, None, (number(6, 1), number(13, 2)), ()))


class KindTest(unittest.TestCase):
    def assert_kind(self, written, wanted):
        tree = read_program(main_text("1", before=f"(fun f ((x {written})) {written} x)"))
        self.assertEqual(tree[2][0][2], (("x", wanted),))
        self.assertEqual(tree[2][0][3], wanted)

    def test_words(self):
        self.assert_kind("int", INT)
        self.assert_kind("bool", BOOL)
        self.assert_kind("unit", UNIT)
        self.assert_kind("list", ("data", "list", 0))

    def test_forms(self):
        self.assert_kind("(tuple int bool)", ("tuple", (INT, BOOL), 0))
        self.assert_kind("(tuple int int int int int d)", ("tuple", (INT,) * 5 + (("data", "d", 0),), 0))
        self.assert_kind("(fn int unit)", ("fn", (INT, UNIT), 0))
        self.assert_kind("(ref int)", ("ref", (INT,), 0))
        self.assert_kind("(array bool)", ("array", (BOOL,), 0))
        self.assert_kind("(ref (array (fn d (ref e))))", ("ref", (("array", (
            ("fn", (("data", "d", 0), ("ref", (("data", "e", 0),), 0)), 0),), 0),), 0))

    def test_a_kind_that_is_too_large_is_read(self):
        six = "(tuple int int int int int int)"
        wanted = ("tuple", (("tuple", (INT,) * 6, 0),) * 6, 0)
        self.assert_kind(f"(tuple {' '.join([six] * 6)})", wanted)


class DeclarationTest(unittest.TestCase):
    def test_example(self):
        self.assertEqual(
            read_program("(fun main ((n int)) int (add n 1))"),
            ((), ('Div', 'Index', 'Size'), (('main', 5, (('n', ('int', (), 0)),), ('int', (), 0), ('add', 24, None, (
                ('name', 29, 'n', (), ()), ('int', 31, 1, (), ())), ())),)),
        )

    def test_mixed_declarations_keep_their_order(self):
        text = (
            "(exception b)(fun g () int 1)(data d (C))(exception a)\n"
            "(fun f ((x d) (y int)) bool true)(data c (B int d) (A))(fun main () int 2)"
        )
        datas = (("d", (("C", ()),)), ("c", (("B", (INT, ("data", "d", 0))), ("A", ()))))
        functions = (
            ("g", 18, (), INT, number(27, 1)),
            ("f", 60, (("x", ("data", "d", 0)), ("y", INT)), BOOL, ("bool", 83, True, (), ())),
            ("main", 115, (), INT, number(127, 2)),
        )
        self.assertEqual((text.index("g ()"), text.index("f ("), text.index("true"), text.index("main")),
            (18, 60, 83, 115))
        self.assertEqual(read_program(text), (datas, FIRST + ("b", "a"), functions))

    def test_most_constructors_and_fields(self):
        written = " ".join(f"(C{index} int int int int int int)" for index in range(8))
        datas = read_program(main_text("1", before=f"(data d {written})"))[0]
        self.assertEqual(datas, (("d", tuple((f"C{index}", (INT,) * 6) for index in range(8))),))

    def test_most_parameters(self):
        written = " ".join(f"({letter} int)" for letter in "abcdef")
        function = read_program(main_text("1", before=f"(fun f ({written}) unit unit)"))[2][0]
        self.assertEqual(function[2], tuple((letter, INT) for letter in "abcdef"))

    def test_main_with_three_parameters(self):
        function = read_program("(fun main ((a int) (b int) (c int)) int 1)")[2][0]
        self.assertEqual(function[2], (("a", INT), ("b", INT), ("c", INT)))

    def test_names_are_not_resolved(self):
        read_program("(data d (C e)) (fun main () int (f (D x) (raise z y 1)))")

    def test_names_of_different_sorts_may_be_equal(self):
        text = (
            "(data same (Div) (Same)) (exception same) (fun same ((same int)) int (same same))"
            "(fun other ((same int)) int same) (fun main ((same int)) int same)"
        )
        self.assertEqual(len(read_program(text)[2]), 3)

    def test_arms_may_bind_the_same_names(self):
        read_program(main_text("(case x ((C a) 1) ((D a) 2))"))


class NameTest(unittest.TestCase):
    RESERVED = (
        "data exception fun tuple get let if case fn apply ref deref set array at put len raise handle print seq "
        "add sub mul div rem equal less true false int bool unit"
    )

    def test_small_names(self):
        for word in ("a", "z", "a0", "a_", "azby0189_", "abcdefghijkl", "intx", "ints", "main"):
            self.assertEqual(body_of(main_text(f"(let {word} 1 {word})"))[2], word)

    def test_no_small_names(self):
        words = ("A", "aB", "_a", "0a", "1", "-", "a-b", "a.", "abcdefghijklm", "a\"", "a'", "=")
        for word in words + tuple(self.RESERVED.split()):
            with self.subTest(word):
                self.assertEqual(text_fault(main_text(f"(let {word} 1 1)")), 22)

    def test_great_names(self):
        for word in ("A", "Z", "Aa", "A_0", "ABC", "Cons", "Abcdefghijkl", "Int", "INT"):
            tree = read_program(main_text(f"({word})", before=f"(data d ({word}))"))
            self.assertEqual(tree[0][0][1][0][0], word)
            self.assertEqual(tree[2][0][4][2], word)

    def test_no_great_names(self):
        for word in ("a", "aA", "_A", "0A", "A-b", "A.", "Abcdefghijklm", "int", "1"):
            with self.subTest(word):
                self.assertEqual(text_fault(f"(data d ({word}))" + main_text("1")), 9)

    def test_the_first_exceptions_are_exception_names(self):
        for word in ("Div", "Index", "Size", "e"):
            self.assertIsNone(text_fault(main_text(f"(handle 1 ({word} x 1))")))
        for word in ("Other", "DIV", "div", "Divs", "1"):
            text, at = split_mark(main_text(f"(handle 1 (^{word} x 1))"))
            self.assertEqual(text_fault(text), at)
            text, at = split_mark(main_text(f"(raise ^{word} int 1)"))
            self.assertEqual(text_fault(text), at)


if __name__ == "__main__":
    unittest.main()
