import unittest

from tests.helpers import main_text, split_mark, text_fault


def nested(levels):
    """An expression whose forms are nested so many levels deep."""
    return "(ref " * levels + "1" + ")" * levels


def sized_text(many, before=""):
    """A text with so many expressions and the declarations before them; the last expression is 1."""
    functions = [f"(fun f{index} () int (add 1 1))" for index in range((many - 1) // 3)]
    body = ("1", "(ref 1)", "(add 1 1)")[(many - 1) % 3]
    return before + "".join(functions) + main_text(body)


class FaultTest(unittest.TestCase):
    def assert_faults(self, *marked):
        for text in marked:
            with self.subTest(text):
                plain, at = split_mark(text)
                self.assertEqual(text_fault(plain), at)

    def assert_bodies(self, *marked):
        self.assert_faults(*[main_text(body) for body in marked])

    def assert_kinds(self, *marked):
        for kind in marked:
            self.assert_faults(
                f"(fun f () {kind} 1)(fun main () int 1)",
                f"(fun f ((x {kind})) int 1)(fun main () int 1)",
                f"(data d (C int {kind}))(fun main () int 1)",
                main_text(f"(fn (x {kind}) 1)"),
                main_text(f"(raise Div {kind} 1)"),
            )


class CaseOrderTest(FaultTest):
    """For each case of the list of errors a text that only it refuses, and texts in which two are due."""

    def test_case_1_alone(self):
        text = main_text("1")
        self.assertIsNone(text_fault(text + " " * (6000 - len(text))))
        self.assertEqual(text_fault(text + " " * (6001 - len(text))), 0)

    def test_case_2_alone(self):
        self.assert_faults("(fun main () int 1) ; 5 ^%", "(fun main () int^\r 1)")

    def test_case_3_alone(self):
        self.assert_faults(
            "(fun main () int 1)^)", "^x (fun main () int 1)", "(fun main () int 1) ^1", "^)(fun main () int 1)",
            main_text(nested(11).replace("1", "^(ref 1)")),
            "(fun main () int 1) (^",
        )
        self.assertIsNone(text_fault(main_text(nested(11))))

    def test_case_4_alone(self):
        self.assert_faults("(^int d) (fun main () int 1)", main_text("(f ^007)"))

    def test_case_5_alone(self):
        self.assert_faults(
            "^", "  ; nothing\n^", "(data d (C))^", "(exception e) ^", "(fun f () int 1)^",
            "(fun main () int 1)(fun f () int 1)^",
            "(fun main ((a int) (b int) (c int) (d int)) int 1)^",
            "(fun main ((a int) (b bool)) int 1)\n^",
            "(fun main ((a (ref int))) int 1)^",
            "(fun main () bool true)^", "(fun main () main 1)^",
        )
        self.assertIsNone(text_fault("(fun main () int 1)(data d (C))(exception e)"))

    def test_case_6_alone(self):
        self.assertIsNone(text_fault(sized_text(400)))
        for many in (401, 402, 450):
            text = sized_text(many)
            self.assertEqual(text_fault(text), len(text))

    def test_case_6_counts_the_bodies_of_arms(self):
        # Ten expressions, five of them in arms.
        body = "(case 1 ((C) (f 1 1)) ((D) (handle (ref 1) (e x (f 1)))))"
        self.assertIsNone(text_fault(sized_text(390, f"(fun g () int {body})")))
        text = sized_text(391, f"(fun g () int {body})")
        self.assertEqual(text_fault(text), len(text))

    def test_case_1_before_2(self):
        self.assertEqual(text_fault("aa%" + " " * 5998), 0)

    def test_case_1_before_6(self):
        text = "(fun main () int (f " + "1 " * 3000 + "))"
        self.assertEqual(text_fault(text), 0)

    def test_case_2_before_3(self):
        self.assert_faults(") x ^%", "(fun main () int 1) ) ^\x00 (")

    def test_case_2_before_4_and_5(self):
        self.assert_faults("(int) ^%", "^%")

    def test_case_3_before_4(self):
        self.assert_faults("(int) ^x", "(fun main () int 007)^)", "(fun main () int 007^", "() (a^")
        self.assert_faults(f"(int) {'(' * 12}^(")

    def test_case_3_before_5(self):
        self.assert_faults("(data d (C))^)", "^x")

    def test_case_3_from_left_to_right(self):
        deep = "(" * 12
        self.assert_faults(
            "(a) ^) x (", "(a) ^x ) (", f"{deep}^((", f"^) {deep}(", f"^x {deep}(", f"{deep}^( a ) x",
            f"{deep}{')' * 12}^) {deep}(",
        )

    def test_case_4_before_5(self):
        self.assert_faults("(data d (^c))", "(fun f () int ^007)", "(fun main () bool ^007)")

    def test_case_4_before_6(self):
        text = sized_text(401)
        self.assertEqual(text_fault(text), len(text))
        self.assert_faults(text + "(exception ^E)")


class DepthTest(FaultTest):
    def test_twelve_and_thirteen(self):
        self.assertIsNone(text_fault(main_text(nested(11))))
        self.assertEqual(text_fault(main_text(nested(12))), 17 + 11 * 5)

    def test_forms_of_all_sorts_count(self):
        # The kind of a parameter is the fourth form.
        self.assertIsNone(text_fault(f"(fun f ((x {nested(9).replace('1', 'int')})) int 1)(fun main () int 1)"))
        text = f"(fun f ((x {nested(10).replace('1', 'int')})) int 1)(fun main () int 1)"
        self.assertEqual(text_fault(text), 11 + 9 * 5)

    def test_depth_falls_again(self):
        many = f"(f {nested(10)} {nested(10)})"
        self.assertIsNone(text_fault(main_text(many)))


class DeclarationFaultTest(FaultTest):
    def test_first_part(self):
        self.assert_faults(
            "^()", "(^(data) d (C))", "(^int)", "(^main () int 1)", "(^Data d (C))", "(^tuple)", "(^1 2)", "(^true)",
        )

    def test_number_of_parts(self):
        nine = " ".join(f"(C{index})" for index in range(9))
        self.assert_faults(
            "^(data)", "^(data d)", f"^(data d {nine})", "^(data D)", "^(exception)", "^(exception a b)",
            "^(exception (a) b)", "^(fun)", "^(fun main () int)", "^(fun main () int 1 2)", "^(fun 1 2 3)",
            "(exception a) ^(fun Main)",
        )

    def test_data_name(self):
        self.assert_faults("(data ^D (C))", "(data ^int (C))", "(data ^(d) (C))", "(data ^1 c)", "(data ^() c)")

    def test_constructors(self):
        seven = "int " * 7
        self.assert_faults(
            "(data d ^C)", "(data d (C) ^C)", "(data d ^())", f"(data d ^(C {seven}))", f"(data d ^(c {seven}))",
            "(data d (^c))", "(data d (^(C)))", "(data d (^1 007))", "(data d (C ^C))", "(data d (C int ^()))",
        )

    def test_exception_name(self):
        self.assert_faults("(exception ^E)", "(exception ^Div)", "(exception ^(e))", "(exception ^add)")

    def test_functions(self):
        self.assert_faults(
            "(fun ^F x y z)", "(fun ^(f) x y z)", "(fun ^add x y z)", "(fun f ^x 1 z)", "(fun f () ^1 007)",
            "(fun f () int ^007)", "(fun f ((x ^X)) Y Z)",
        )

    def test_parameters(self):
        seven = " ".join(f"({letter} int)" for letter in "abcdefg")
        self.assert_faults(
            f"(fun f ^({seven}) 1 1)", "(fun f ^(1 2 3 4 5 6 7) int 1)", "(fun f (^x) int 1)", "(fun f (^()) int 1)",
            "(fun f (^(x)) int 1)", "(fun f (^(x int int)) int 1)", "(fun f (^(X int int)) int 1)",
            "(fun f ((^X 1)) int 1)", "(fun f ((^int int)) int 1)", "(fun f ((^(x) int)) int 1)",
            "(fun f ((x int) ^y) int 1)",
        )

    def test_distinct_names(self):
        main = "(fun main () int 1)"
        self.assert_faults(
            f"(data d (C)) (data e (D)) (data ^d (E)) {main}",
            f"(data d (C) (D) (^C)) {main}",
            f"(data d (C)) (data e (D) (^C int)) {main}",
            f"(exception a) (exception b) (exception ^a) {main}",
            f"(fun f () int 1) (fun ^f () int 1) {main}",
            f"{main} (fun ^main () int 1)",
            f"(fun f ((x int) (y int) (^x int)) int 1) {main}",
            main_text("(case 1 ((C x y ^x) 1))"),
        )

    def test_a_name_that_stands_twice_is_checked_in_its_place(self):
        main = "(fun main () int 1)"
        self.assert_faults(
            f"(data d (C)) (data ^d 1) {main}", f"(data d (C)) (data e (^C 1)) {main}",
            f"(fun f () int 1) (fun ^f 1 1 1) {main}", f"(fun f ((x int) (^x 1)) 1 1) {main}",
            main_text("(case 1 ((C x ^x 1) 007))"),
        )

    def test_from_left_to_right(self):
        self.assert_faults(
            "(exception ^E) (fun 1)", "(fun f () int ^-0) (int)", "(data d (C ^1)) (data d (C))",
            "(fun f () ^X Y) (fun main () int 1)",
        )


class KindFaultTest(FaultTest):
    def test_words(self):
        self.assert_kinds("^1", "^true", "^add", "^tuple", "^ref", "^Int", "^X", "^abcdefghijklm", "^-1")

    def test_first_part(self):
        self.assert_kinds("^()", "(^(ref) int)", "(^int)", "(^list int)", "(^data)", "(^Ref int)", "(^1)", "(^set 1)")

    def test_number_of_parts(self):
        self.assert_kinds(
            "^(tuple)", "^(tuple int)", "^(tuple 1)", "^(tuple int int int int int int int)", "^(fn)", "^(fn int)",
            "^(fn int int int)", "^(ref)", "^(ref int int)", "^(array)", "^(array int int)", "^(array 1 2)",
        )

    def test_other_parts(self):
        self.assert_kinds(
            "(tuple int ^1)", "(tuple ^1 2)", "(tuple int bool ^())", "(fn ^1 2)", "(fn int ^X)", "(ref ^1)",
            "(array ^true)", "(ref (ref (array ^(fn int))))",
        )


class ExpressionFaultTest(FaultTest):
    def test_words(self):
        self.assert_bodies(
            "^007", "^-0", "^2147483648", "^-2147483649", "^X", "^Div", "^add", "^int", "^bool", "^data", "^+1", "^a.b",
            "^abcdefghijklm", "^_", "^True", "^tuple",
        )

    def test_first_part(self):
        self.assert_bodies(
            "^()", "(^(f) 1)", "(^())", "(^1 2)", "(^true)", "(^false 1)", "(^unit)", "(^int 1)", "(^bool)",
            "(^data d)", "(^exception)", "(^fun f)", "(^+ 1 2)", "(^abcdefghijklm)", "(^Abcdefghijklm)", "(^aB 007)",
        )

    def test_number_of_parts(self):
        arms = " ((C) 1)" * 9
        self.assert_bodies(
            "^(f 1 1 1 1 1 1 1)", "^(C 1 1 1 1 1 1 1)", "^(tuple)", "^(tuple 1)", "^(tuple 1 1 1 1 1 1 1)",
            "^(get)", "^(get 0)", "^(get 0 x y)", "^(get x)", "^(let)", "^(let x)", "^(let x 1)", "^(let x 1 2 3)",
            "^(if)", "^(if true 1)", "^(if true 1 2 3)", "^(case)", "^(case x)", f"^(case x{arms})", "^(fn)", "^(fn x)",
            "^(fn (x int))", "^(fn (x int) 1 2)", "^(apply f)", "^(apply f 1 2)", "^(raise)", "^(raise Div)",
            "^(raise Div int)", "^(raise Div int 1 2)", "^(handle)", f"^(handle 1{' (e x 1)' * 7})", "^(put x 1)",
            "^(put x 1 2 3)",
        )

    def test_number_of_parts_of_ops_with_kids_alone(self):
        for op in ("ref", "deref", "len", "print"):
            self.assert_bodies(f"^({op})", f"^({op} 1 2)", f"^({op} 007 2)")
        for op in "set array at seq add sub mul div rem equal less".split():
            self.assert_bodies(f"^({op})", f"^({op} 1)", f"^({op} 1 2 3)", f"^({op} 007)")

    def test_kids_in_order(self):
        words = "f C tuple if apply set array at seq add sub mul div rem equal less put"
        for word in words.split():
            many = 3 if word in ("if", "put") else 2
            for place in range(many):
                kids = ["1"] * place + ["^007"] + ["X"] * (many - place - 1)
                self.assert_bodies(f"({word} {' '.join(kids)})")
        for word in ("ref", "deref", "len", "print", "get 0", "let x 1", "fn (x int)", "raise Div int", "handle"):
            self.assert_bodies(f"({word} ^007)", f"({word} ^())", f"({word} (^() 1))")

    def test_get(self):
        self.assert_bodies(
            "(get ^6 1)", "(get ^9 7)", "(get ^-1 1)", "(get ^00 1)", "(get ^x 007)", "(get ^true 1)", "(get ^(f) 1)",
            "(get ^() 1)", "(get 0 ^X)",
        )

    def test_let(self):
        self.assert_bodies("(let ^1 X Y)", "(let ^X 1 1)", "(let ^int 1 1)", "(let ^(x) 1 1)", "(let x ^X Y)",
                           "(let x 1 ^Y)")

    def test_fn(self):
        self.assert_bodies(
            "(fn ^x 007)", "(fn ^() 1)", "(fn ^(x) 1)", "(fn ^(x int int) 1)", "(fn ^(X int 1) 1)", "(fn (^X int) 1)",
            "(fn (^int 1) 1)", "(fn (^(x) int) 1)", "(fn (x ^1) X)", "(fn (x int) ^X)",
        )

    def test_raise(self):
        self.assert_bodies(
            "(raise ^E 1 X)", "(raise ^(e) 1 X)", "(raise ^add int 1)", "(raise Div ^1 X)", "(raise e ^() X)",
            "(raise e int ^X)",
        )

    def test_case(self):
        self.assert_bodies(
            "(case ^X 1)", "(case 1 ^x)", "(case 1 ((C) 1) ^x)", "(case 1 ^())", "(case 1 ^((C)))",
            "(case 1 ^((C) 1 2))", "(case 1 ^(C 1 2))", "(case 1 (^C 1))", "(case 1 (^() 1))", "(case 1 ((^c) X))",
            "(case 1 ((^(C)) X))", "(case 1 ((^1) X))", "(case 1 ((C ^X) Y))", "(case 1 ((C x ^(y)) Y))",
            "(case 1 ((C x ^int) Y))", "(case 1 ((C x) ^Y))", "(case 1 ((C) 1) ((D) ^Y) 1)",
        )

    def test_handle(self):
        self.assert_bodies(
            "(handle ^X 1)", "(handle 1 ^e)", "(handle 1 ^())", "(handle 1 ^(e x))", "(handle 1 ^(e x 1 2))",
            "(handle 1 ^((e x) 1))", "(handle 1 (^E x 1))", "(handle 1 (^(e) x 1))", "(handle 1 (^int X Y))",
            "(handle 1 (e ^X Y))", "(handle 1 (e ^(x) 1))", "(handle 1 (Div x ^Y) 1)", "(handle 1 (e x 1) ^y)",
        )

    def test_the_first_part_comes_before_the_number_of_parts(self):
        self.assert_bodies("(^int)", "(^(tuple))", "(^007 1 1 1 1 1 1 1 1)")

    def test_the_number_of_parts_comes_before_the_other_parts(self):
        self.assert_bodies("^(add 007)", "^(get 9 1 1)", "^(let X 1)", "^(tuple X)", "^(f 007 1 1 1 1 1 1)")


if __name__ == "__main__":
    unittest.main()
