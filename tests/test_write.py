import unittest

from escheat.kinds import with_kinds
from escheat.words import read_program, same_tree, write_program
from tests.helpers import FIRST, INT, change_indexes, drop_indexes, kind_fault, main_text, text_fault, tree_of

# All declarations, kinds and ops, as write_program writes them.
WHOLE = (
    "(data list (Nil) (Cons int list))\n"
    "(data mix (Mix (tuple int bool unit) (fn list mix) (ref list) (array (ref bool))))\n"
    "(exception lost)\n"
    "(exception found)\n"
    "(fun length ((xs list) (many int)) int (case xs ((Nil) many) ((Cons x rest) (length rest (add many 1)))))\n"
    "(fun none () unit unit)\n"
    "(fun both ((x bool)) bool (if x true false))\n"
    "(fun tell ((p (tuple int int))) int (let x (get 1 p) (seq (print x) x)))\n"
    "(fun make ((f (fn int int))) (ref int) (ref (apply f -1)))\n"
    "(fun change ((r (ref int)) (a (array int))) unit (seq (set r (len a)) (put a 0 (at a (deref r)))))\n"
    "(fun catch ((n int)) int (handle (raise lost int n) (lost x (sub x 1)) (Div y 2147483647) (Size z (mul z z))))\n"
    "(fun plain () int (handle (div (rem 7 2) -2147483648)))\n"
    "(fun main ((n int)) int (let f (fn (x int) (add x n)) (let a (array 3 (apply f 1)) (if (less n 0) (length (Cons 1 "
    "(Nil)) 0) (if (equal n 5) (get 0 (tuple n 1)) (at a n))))))\n"
)


class WriteTest(unittest.TestCase):
    def assert_written(self, text, wanted):
        self.assertEqual(write_program(read_program(text)), wanted)

    def test_example(self):
        self.assertEqual(
            write_program(read_program("(fun main () int ; seven\n  7)")),
            '(fun main () int 7)\n',
        )

    def test_whole_language(self):
        with_kinds(read_program(WHOLE))
        self.assert_written(WHOLE, WHOLE)

    def test_groups_in_order(self):
        self.assert_written(
            "(exception b)(fun g()int 1)(data d(C))(exception a)(data c(D int)(E))(fun main()int 2)",
            "(data d (C))\n(data c (D int) (E))\n(exception b)\n(exception a)\n(fun g () int 1)\n(fun main () int 2)\n",
        )

    def test_separators(self):
        self.assert_written("\t(fun\nmain ( (a\tint)(b   int) )int(add;x\na b))",
            "(fun main ((a int) (b int)) int (add a b))\n")

    def test_every_op(self):
        bodies = (
            "0", "-1", "true", "false", "unit", "x", "(f)", "(f 1 x)", "(C)", "(C 1 x)", "(tuple 1 2)", "(get 5 x)",
            "(let x 1 x)", "(if 1 2 3)", "(case x ((C) 1) ((D a b) a))", "(fn (x (ref d)) x)", "(apply f 1)",
            "(raise Div int 1)", "(raise e (tuple int (fn bool unit)) 1)", "(handle 1)",
            "(handle 1 (Index x 1) (e y 2))",
            "(ref x)", "(deref x)", "(set x 1)", "(array 1 x)", "(at x 1)", "(put x 1 2)", "(len x)", "(print 1)",
            "(seq 1 2)", "(add 1 2)", "(sub 1 2)", "(mul 1 2)", "(div 1 2)", "(rem 1 2)", "(equal 1 2)", "(less 1 2)",
        )
        for body in bodies:
            with self.subTest(body):
                self.assert_written(main_text(body), main_text(body) + "\n")

    def test_reading_back(self):
        spread = WHOLE.replace(" ", "  \t").replace("(", " ( ").replace("\n", " ; end \n\n")
        for text in (WHOLE, spread):
            tree = read_program(text)
            again = read_program(write_program(tree))
            self.assertTrue(same_tree(tree, again))
            self.assertEqual(drop_indexes(tree), drop_indexes(again))
        self.assertNotEqual(read_program(spread), read_program(WHOLE))

    def test_indexes_do_not_matter(self):
        tree = read_program(WHOLE)
        self.assertEqual(write_program(drop_indexes(tree)), WHOLE)
        self.assertEqual(write_program(change_indexes(tree, lambda at: -10 ** 5000 - at)), WHOLE)

    def test_longer_than_a_text(self):
        datas = "".join(
            f"(data d{index}" + "".join(f"({letter}{index})" for letter in "ABCDEFGH") + ")" for index in range(110)
        )
        text = datas + "(fun main()int 1)"
        self.assertLessEqual(len(text), 6000)
        written = write_program(read_program(text))
        self.assertEqual(len(written.split("\n")), 112)
        self.assertGreater(len(written), 6000)
        self.assertEqual(text_fault(written), 0)

    def test_twelve_levels(self):
        body = ("int", 0, 1, (), ())
        for _ in range(11):
            body = ("add", 0, None, (body, ("int", 0, 2, (), ())), ())
        tree = tree_of(body)
        self.assertIsNone(kind_fault(tree))
        self.assertTrue(same_tree(read_program(write_program(tree)), tree))

    def test_a_case_nested_deeper_than_a_text(self):
        datas = (("d", (("C", ()),)),)
        body = ("int", 0, 1, (), ())
        for _ in range(11):
            body = ("case", 0, None, (("make", 0, "C", (), ()),), (("C", (), body),))
        tree = tree_of(body, datas=datas)
        self.assertIsNone(kind_fault(tree))
        written = write_program(tree)
        self.assertEqual(written, f"(data d (C))\n(fun main () int {'(case (C) ((C) ' * 11}1{'))' * 11})\n")
        self.assertIsNotNone(text_fault(written))

    def test_a_kind_nested_deeper_than_a_text(self):
        kind = INT
        for _ in range(31):
            kind = ("ref", (kind,), 0)
        functions = (("f", 0, (("x", kind),), kind, ("name", 0, "x", (), ())),
            ("main", 0, (), INT, ("int", 0, 1, (), ())))
        tree = ((), FIRST, functions)
        self.assertIsNone(kind_fault(tree))
        shown = "(ref " * 31 + "int" + ")" * 31
        self.assertEqual(write_program(tree), f"(fun f ((x {shown})) {shown} x)\n(fun main () int 1)\n")


if __name__ == "__main__":
    unittest.main()
