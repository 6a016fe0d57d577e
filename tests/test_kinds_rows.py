import unittest

from escheat.kinds import kind_size, with_kinds
from escheat.words import read_program
from tests.helpers import BOOL, INT, UNIT, deep, kind_fault, main_text, split_mark, tree_of

BEFORE = (
    "(data list (Nil) (Cons int list)) (data box (Box bool)) (data full (F int bool unit list box full))\n"
    "(exception lost)\n"
    "(fun two ((x int) (y bool)) bool y) (fun none () unit unit) (fun ints () (array int) (array 2 0))\n"
)
LIST = ("data", 0, 0)
BOX = ("data", 1, 0)
PAIR = ("tuple", (INT, BOOL), 0)


def typed(body):
    """An expression with its kind, from its text."""
    text = main_text(f"(seq {body} n)", "((n int))", BEFORE)
    return with_kinds(read_program(text))[2][-1][3][3][0]


def int_at(at, value=1):
    return ("int", at, value, (), ())


class RowTest(unittest.TestCase):
    def assert_kind(self, body, kind):
        with self.subTest(body):
            self.assertEqual(typed(body)[1], kind)

    def assert_refused(self, *marked):
        for body in marked:
            with self.subTest(body):
                text, at = split_mark(main_text(f"(seq {body} n)", "((n int))", BEFORE))
                self.assertEqual(kind_fault(read_program(text)), at)

    def assert_refused_at_9(self, *bodies):
        for body in bodies:
            with self.subTest(body):
                self.assertEqual(kind_fault(tree_of(body)), 9)


class LeafTest(RowTest):
    def test_int(self):
        self.assert_kind("0", INT)
        for info in (0, -2147483648, 2147483647):
            tree = with_kinds(tree_of(int_at(9, info)))
            self.assertEqual(tree[2][0][3], ("int", INT, info, (), ()))
        for info in (None, True, False, "1", (), 2147483648, -2147483649, 10 ** 5000):
            self.assert_refused_at_9(int_at(9, info))

    def test_bool(self):
        self.assertEqual(typed("true"), ("bool", BOOL, True, (), ()))
        self.assertEqual(typed("false"), ("bool", BOOL, False, (), ()))
        for info in (None, 0, 1, "true", (), (True,)):
            self.assert_refused_at_9(("bool", 9, info, (), ()))

    def test_unit(self):
        self.assertEqual(typed("unit"), ("unit", UNIT, None, (), ()))
        for info in (0, False, "", (), "unit"):
            self.assert_refused_at_9(("unit", 9, info, (), ()))

    def test_name(self):
        self.assertEqual(typed("n"), ("name", INT, "n", (), ()))
        self.assert_kind("(let x true x)", BOOL)
        self.assert_refused("^x", "^two", "^list", "^lost", "(seq ^x y)")
        for info in (None, 0, True, (), "Div", "", ("n",), deep(90)):
            self.assert_refused_at_9(("name", 9, info, (), ()))


class ScopeTest(RowTest):
    def test_parameters_are_in_scope_in_their_own_function_alone(self):
        self.assert_refused("^y", "(let z 1 ^y)")
        text, at = split_mark("(fun f ((a int)) int a) (fun main () int ^a)")
        self.assertEqual(kind_fault(read_program(text)), at)

    def test_let(self):
        self.assert_kind("(let x n (let y x (add x y)))", INT)
        self.assert_refused("(let x ^x 1)", "(seq (let x 1 x) ^x)")

    def test_fn(self):
        self.assert_kind("(fn (x bool) (if x n 0))", ("fn", (BOOL, INT), 0))
        self.assert_refused("(apply (fn (x int) x) ^x)", "(fn (x int) ^y)")

    def test_arms(self):
        self.assert_kind("(case (Nil) ((Nil) 0) ((Cons x y) (seq y x)))", INT)
        self.assert_refused("(case (Nil) ((Cons x y) x) ((Nil) ^x))", "(case ^x ((Cons x y) 1) ((Nil) 1))")
        self.assert_kind("(handle 1 (Div x x))", INT)
        self.assert_refused("(handle ^x (Div x x))", "(handle 1 (Div x x) (Size y ^x))")

    def test_inner_variables_hide_outer_ones(self):
        self.assert_kind("(let n true n)", BOOL)
        self.assert_kind("(let n (Nil) (case n ((Nil) n) ((Cons n m) m)))", LIST)
        self.assert_kind("(fn (n bool) n)", ("fn", (BOOL, BOOL), 0))
        self.assert_kind("(case (Box true) ((Box n) n))", BOOL)
        self.assert_kind("(let n true (handle 1 (Div n n)))", INT)
        self.assert_kind("(seq (let n true n) n)", INT)
        self.assert_refused("(let n true (add ^n 1))")

    def test_a_function_is_not_a_variable(self):
        self.assert_refused("^none", "(apply ^two 1)")
        self.assert_kind("(let two 5 (two two true))", BOOL)


class CallTest(RowTest):
    def test_accepted(self):
        self.assertEqual(typed("(two 1 true)")[:3], ("call", BOOL, 0))
        self.assertEqual(typed("(none)"), ("call", UNIT, 1, (), ()))
        self.assertEqual(typed("(ints)")[:3], ("call", ("array", (INT,), 0), 2))
        self.assertEqual(typed("(main 1)")[:3], ("call", INT, 3))

    def test_refused(self):
        self.assert_refused(
            "^(three 1)", "^(lost)", "^(list)", "^(n)", "^(none 1)", "^(two 1)", "^(two)", "^(two 1 true 3)",
            "(two ^true 1)", "(two 1 ^2)", "(two ^x true)", "(two ^true x)", "(two 1 ^x)", "^(two x)",
        )
        for info in (None, 0, True, ("two",), deep(90)):
            self.assert_refused_at_9(("call", 9, info, (), ()))

    def test_only_this_function_and_those_above(self):
        text, at = split_mark("(fun a () int ^(b)) (fun b () int (b)) (fun main () int (a))")
        self.assertEqual(kind_fault(read_program(text)), at)
        text = "(fun a () int (a)) (fun b () int (seq (a) (b))) (fun main () int (seq (main) (b)))"
        tree = with_kinds(read_program(text))
        self.assertEqual(tree[2][1][3][3][0][2], 0)
        self.assertEqual(tree[2][2][3][3][0][2], 2)

    def test_bodies_are_checked_in_order(self):
        text, at = split_mark("(fun a () int ^x) (fun b () int y) (fun main () int z)")
        self.assertEqual(kind_fault(read_program(text)), at)


class MakeTest(RowTest):
    def test_accepted(self):
        self.assertEqual(typed("(Nil)"), ("make", LIST, 0, (), ()))
        self.assertEqual(typed("(Cons 1 (Nil))")[:3], ("make", LIST, 1))
        self.assertEqual(typed("(Box true)")[:3], ("make", BOX, 0))
        self.assert_kind("(fn (x full) (F 1 true unit (Nil) (Box true) x))", ("fn", (("data", 2, 0),) * 2, 0))

    def test_refused(self):
        self.assert_refused(
            "^(None)", "^(Div)", "^(Nil 1)", "^(Cons 1)", "^(Cons)", "^(Cons 1 (Nil) 2)", "(Cons ^true 1)",
            "(Cons 1 ^1)", "(Cons 1 ^(Box true))", "(Cons ^x true)", "(Cons ^true x)", "^(Cons x)",
        )
        for info in (None, 0, True, "nil", ("Nil",), deep(90)):
            self.assert_refused_at_9(("make", 9, info, (), ()))


class TupleTest(RowTest):
    def test_tuple(self):
        self.assert_kind("(tuple 1 true)", PAIR)
        self.assert_kind("(tuple 1 true unit (Nil) 2 3)", ("tuple", (INT, BOOL, UNIT, LIST, INT, INT), 0))
        self.assert_refused("(tuple 1 ^x)", "(tuple ^x y)")

    def test_get(self):
        self.assert_kind("(get 0 (tuple 1 true))", INT)
        self.assertEqual(typed("(get 1 (tuple 1 true))")[:3], ("get", BOOL, 1))
        self.assert_refused(
            "(get 0 ^1)", "(get 5 ^1)", "(get 0 ^(Cons 1 (Nil)))", "(get 0 ^(ref 1))", "(get 0 ^x)",
            "^(get 2 (tuple 1 true))",
            "^(get 5 (tuple 1 2 3 4 5))",
        )
        pair = ("tuple", 3, None, (int_at(4), int_at(5)), ())
        for info in (None, True, False, "0", (), -1, 2, 10 ** 30):
            self.assert_refused_at_9(("get", 9, info, (pair,), ()), ("get", 3, info, (int_at(9),), ()))

    def test_example(self):
        tree = with_kinds(read_program("(fun main () int (get 0 (raise Div (tuple int bool) 0)))"))
        self.assertEqual(tree[2][0][3][1], INT)


class ControlTest(RowTest):
    def test_let(self):
        self.assertEqual(typed("(let x 1 true)")[:3], ("let", BOOL, "x"))
        self.assert_refused("(let x ^y z)", "(let x 1 ^y)", "(let x 1 (add x ^true))")

    def test_if(self):
        self.assert_kind("(if true 1 2)", INT)
        self.assert_kind("(if (less 1 2) (Nil) (Cons 1 (Nil)))", LIST)
        self.assert_refused(
            "(if ^1 2 3)", "(if ^unit x y)", "(if ^x y z)", "(if true ^x y)", "(if true 1 ^x)", "(if true 1 ^false)",
            "(if true (tuple 1 2) ^(tuple 1 true))",
        )

    def test_example(self):
        self.assertEqual(kind_fault(read_program("(fun main () int (if 1 2 3))")), 21)

    def test_seq(self):
        self.assert_kind("(seq 1 true)", BOOL)
        self.assert_refused("(seq ^x y)", "(seq 1 ^x)")

    def test_print(self):
        self.assert_kind("(print 1)", UNIT)
        self.assert_refused("(print ^true)", "(print ^(Nil))", "(print ^x)")


class CaseTest(RowTest):
    def test_accepted(self):
        self.assert_kind("(case (Nil) ((Nil) true) ((Cons x rest) (equal x n)))", BOOL)
        self.assert_kind("(case (Cons 1 (Nil)) ((Cons x rest) rest) ((Nil) (Nil)))", LIST)
        self.assert_kind("(case (Box true) ((Box x) x))", BOOL)

    def test_arms_stand_in_the_order_of_the_constructors(self):
        found = typed("(case (Nil) ((Cons x rest) x) ((Nil) n))")
        self.assertEqual(found, typed("(case (Nil) ((Nil) n) ((Cons x rest) x))"))
        self.assertEqual(found[4], (
            (0, (), ("name", INT, "n", (), ())), (1, ("x", "rest"), ("name", INT, "x", (), ())),
        ))

    def test_the_order_is_that_of_the_constructors_alone(self):
        text = "(data d (B int) (A) (C bool)) (fun main () int (case (A) ((C a) 3) ((B z) 1) ((A) 2)))"
        arms = with_kinds(read_program(text))[2][0][3][4]
        self.assertEqual([arm[:2] for arm in arms], [(0, ("z",)), (1, ()), (2, ("a",))])
        self.assertEqual([arm[2][2] for arm in arms], [1, 2, 3])

    def test_the_kid(self):
        self.assert_refused("(case ^x ((Nil) y))", "(case ^1 ((Nil) 1))", "(case ^(tuple 1 2) ((Nil) x))",
            "(case ^(ref (Nil)) ((Nil) 1))")

    def test_names_of_arms(self):
        self.assert_refused(
            "(case (Nil) ((None) ^x))", "(case (Nil) ((Box y) ^x))", "(case (Nil) ((Nil) 1) ((Nil) ^x))",
            "(case (Nil) ((Nil) 1) ((Cons x y) 2) ((Nil) ^3))", "(case (Nil) ((Nil) ^x) ((Nil) 1))",
        )
        for name in (None, 0, True, "nil", ("Nil",), deep(90)):
            datas = (("list", (("Nil", ()),)),)
            body = ("case", 3, None, (("make", 4, "Nil", (), ()),), ((name, (), int_at(9)),))
            self.assertEqual(kind_fault(tree_of(body, datas=datas)), 9)

    def test_variables_of_arms(self):
        self.assert_refused(
            "(case (Nil) ((Nil x) ^y))", "(case (Nil) ((Cons x) ^y))", "(case (Nil) ((Cons) ^y))",
            "(case (Nil) ((Cons x y z) ^1))", "(case (Box true) ((Box) ^1))",
        )
        arms = (("Cons", ("x", "x"), int_at(9)), ("Nil", (), int_at(5)))
        datas = (("list", (("Nil", ()), ("Cons", (INT, INT)))),)
        body = ("case", 3, None, (("make", 4, "Nil", (), ()),), arms)
        self.assertEqual(kind_fault(tree_of(body, datas=datas)), 9)

    def test_kinds_of_arms(self):
        self.assert_refused(
            "(case (Nil) ((Nil) 1) ((Cons x y) ^y))", "(case (Nil) ((Cons x y) y) ((Nil) ^1))",
            "(case (Nil) ((Nil) ^x) ((Cons x y) y))", "(case (Nil) ((Nil) 1) ((Cons x y) (add x ^y)))",
        )

    def test_arms_in_order(self):
        self.assert_refused(
            "(case (Nil) ((Nil) 1) ((Cons x y) ^true) ((None) z))", "(case (Nil) ((None) ^z) ((Nil) x))",
        )

    def test_missing_arms(self):
        self.assert_refused("^(case (Nil) ((Nil) 1))", "^(case (Nil) ((Cons x y) x))", "(case (Nil) ((Nil) ^x))")

    def test_example(self):
        self.assertEqual(kind_fault(read_program("(data d (C)) (fun main () int (case (C) ((C x) 1)))")), 47)


class ClosureTest(RowTest):
    def test_fn(self):
        self.assert_kind("(fn (x int) true)", ("fn", (INT, BOOL), 0))
        self.assertEqual(typed("(fn (x list) 1)")[:3], ("fn", ("fn", (LIST, INT), 0), ("x", LIST)))
        self.assert_refused("^(fn (x other) 1)", "^(fn (x (ref other)) y)", "(fn (x int) ^y)")
        for kind in (None, "int", (), ("int", (), False), ("tuple", (INT,) * 7, 0), deep(90)):
            self.assert_refused_at_9(("fn", 9, ("x", kind), (("name", 3, "y", (), ()),), ()))

    def test_apply(self):
        self.assert_kind("(apply (fn (x int) true) 1)", BOOL)
        self.assert_kind("(apply (fn (x list) x) (Nil))", LIST)
        self.assert_refused(
            "(apply ^1 2)", "(apply ^(ref 1) x)", "(apply ^x y)", "(apply (fn (x int) x) ^true)",
            "(apply (fn (x int) x) ^y)",
        )


class MemoryTest(RowTest):
    def test_ref(self):
        self.assert_kind("(ref true)", ("ref", (BOOL,), 0))
        self.assert_refused("(ref ^x)")

    def test_deref(self):
        self.assert_kind("(deref (ref true))", BOOL)
        self.assert_refused("(deref ^1)", "(deref ^(array 1 2))", "(deref ^(fn (x int) x))", "(deref ^x)")

    def test_set(self):
        self.assert_kind("(set (ref true) false)", UNIT)
        self.assert_refused(
            "(set ^1 2)", "(set ^(array 1 2) 3)", "(set (ref true) ^1)", "(set ^x y)", "(set 1 ^x)",
            "(set (ref 1) ^(ref 1))",
        )

    def test_array(self):
        self.assert_kind("(array 1 true)", ("array", (BOOL,), 0))
        self.assert_refused("(array ^true 1)", "(array ^x y)", "(array true ^x)")

    def test_at(self):
        self.assert_kind("(at (array 1 true) 0)", BOOL)
        self.assert_refused("(at ^1 2)", "(at ^(ref 1) true)", "(at (array 1 true) ^true)", "(at ^x y)", "(at 1 ^x)")

    def test_put(self):
        self.assert_kind("(put (array 1 true) 0 false)", UNIT)
        self.assert_refused(
            "(put ^1 2 3)", "(put ^(ref 1) true unit)", "(put (array 1 true) ^true 1)", "(put (array 1 true) 0 ^1)",
            "(put ^x y z)", "(put 1 ^x y)", "(put 1 true ^x)",
        )

    def test_len(self):
        self.assert_kind("(len (array 1 true))", INT)
        self.assert_refused("(len ^1)", "(len ^(ref 1))", "(len ^(tuple 1 2))", "(len ^x)")


class ExceptionTest(RowTest):
    def test_raise(self):
        self.assertEqual(typed("(raise Div bool 1)")[:3], ("raise", BOOL, 0))
        self.assertEqual(typed("(raise Size unit 1)")[:3], ("raise", UNIT, 2))
        self.assertEqual(typed("(raise lost (ref list) n)")[:3], ("raise", ("ref", (LIST,), 0), 3))
        self.assert_refused(
            "^(raise other int 1)", "^(raise none other x)", "^(raise Div other x)", "^(raise Div (fn int other) 1)",
            "(raise Div int ^true)", "(raise Div int ^x)", "(raise Div bool ^(Nil))",
        )
        for name in (None, 0, True, "Other", ("Div",), deep(90)):
            self.assert_refused_at_9(("raise", 9, (name, INT), (("name", 3, "y", (), ()),), ()))
        for kind in (None, "int", (), ("int", (), False), ("tuple", (INT,) * 7, 0), deep(90)):
            self.assert_refused_at_9(("raise", 9, ("Div", kind), (("name", 3, "y", (), ()),), ()))

    def test_handle(self):
        self.assert_kind("(handle 1)", INT)
        self.assert_kind("(handle true (Div x false) (lost x (less x n)))", BOOL)
        self.assert_kind("(handle 1 (Div x x) (Index x x) (Size x x) (lost x x))", INT)

    def test_arms_of_handle_keep_their_order(self):
        arms = typed("(handle 1 (lost x x) (Div y 2) (Size x x))")[4]
        self.assertEqual([(arm[0], arm[1]) for arm in arms], [(3, ("x",)), (0, ("y",)), (2, ("x",))])
        self.assertEqual(arms[0][2], ("name", INT, "x", (), ()))

    def test_refused_handles(self):
        self.assert_refused(
            "(handle ^x (other y z))", "(handle 1 (other x ^y))", "(handle 1 (none x ^1))",
            "(handle 1 (Div x 1) (Div x ^y))",
            "(handle 1 (Div x ^true))", "(handle true (Div x ^x))", "(handle 1 (Div x ^y))",
            "(handle true (Div x ^1) (Size x y))",
            "(handle 1 (Div x 1) (Size x ^true) (Size x y))",
        )
        for name in (None, 0, True, "div", ("Div",), deep(90)):
            self.assert_refused_at_9(("handle", 3, None, (int_at(4),), ((name, ("x",), int_at(9)),)))
        for variables in ((), ("x", "y"), ("x", "x")):
            self.assert_refused_at_9(("handle", 3, None, (int_at(4),), (("Div", variables, int_at(9)),)))


class NumberTest(RowTest):
    def test_arithmetic(self):
        for op in ("add", "sub", "mul", "div", "rem"):
            self.assert_kind(f"({op} 1 2)", INT)
        for op in ("equal", "less"):
            self.assert_kind(f"({op} 1 2)", BOOL)

    def test_refused(self):
        for op in ("add", "sub", "mul", "div", "rem", "equal", "less"):
            self.assert_refused(
                f"({op} ^true 1)", f"({op} 1 ^true)", f"({op} ^true false)", f"({op} ^x y)", f"({op} true ^x)",
                f"({op} ^unit (Nil))",
            )


class NumberOfPartsTest(RowTest):
    KIDS = {
        "int": (0, 0), "bool": (0, 0), "unit": (0, 0), "name": (0, 0), "call": (0, 6), "make": (0, 6), "tuple": (2, 6),
        "get": (1, 1), "let": (2, 2), "if": (3, 3), "case": (1, 1), "fn": (1, 1), "apply": (2, 2), "raise": (1, 1),
        "handle": (1, 1), "ref": (1, 1), "deref": (1, 1), "len": (1, 1), "print": (1, 1), "set": (2, 2),
        "array": (2, 2),
        "at": (2, 2), "seq": (2, 2), "add": (2, 2), "sub": (2, 2), "mul": (2, 2), "div": (2, 2), "rem": (2, 2),
        "equal": (2, 2), "less": (2, 2), "put": (3, 3),
    }
    ARMS = {"case": (1, 8), "handle": (0, 6)}
    INFOS = {
        "int": 1, "bool": True, "name": "n", "call": "main", "make": "C", "get": 0, "let": "x", "fn": ("x", INT),
        "raise": ("Div", INT),
    }

    def fault(self, op, kids, arms, info=None):
        """The error of an expression at 9 with so many kids at 20 and arms, whose bodies are at 30."""
        many_arms = tuple(("Div", ("x",), int_at(30)) for _ in range(arms))
        wrong = ("name", 20, "unknown", (), ())
        info = self.INFOS.get(op) if info is None else info
        return kind_fault(tree_of((op, 9, info, (wrong,) * kids, many_arms)))

    def test_kids(self):
        for op, (least, most) in self.KIDS.items():
            arms = self.ARMS.get(op, (0, 0))[0]
            for many in range(9):
                with self.subTest(op=op, many=many):
                    if not least <= many <= most:
                        self.assertEqual(self.fault(op, many, arms), 9)
                    elif many and op not in ("call", "make"):
                        self.assertEqual(self.fault(op, many, arms), 20)

    def test_kids_of_calls_and_constructors(self):
        # Six kids are as many as the function and the constructor have; seven are an error ahead of an unknown name.
        six = tuple((letter, INT) for letter in "abcdef")
        functions = (("f", 2, six, INT, int_at(3)), ("main", 2, (), INT, ("call", 9, "f", (int_at(4),) * 6, ())))
        self.assertIsNone(kind_fault(((), ("Div", "Index", "Size"), functions)))
        for op in ("call", "make"):
            self.assert_refused_at_9((op, 9, self.INFOS[op], (("name", 20, "unknown", (), ()),) * 7, ()))

    def test_arms(self):
        for op in self.KIDS:
            least, most = self.ARMS.get(op, (0, 0))
            kids = self.KIDS[op][0]
            for many in range(11):
                with self.subTest(op=op, many=many):
                    if not least <= many <= most:
                        self.assertEqual(self.fault(op, kids, many), 9)
                    elif op in self.ARMS:
                        self.assertEqual(self.fault(op, kids, many), 20)

    def test_eight_arms_of_a_case(self):
        datas = (("d", tuple((f"C{index}", ()) for index in range(8))),)
        arms = tuple((f"C{index}", (), int_at(4, index)) for index in range(8))
        self.assertIsNone(kind_fault(tree_of(("case", 9, None, (("make", 3, "C5", (), ()),), arms), datas=datas)))

    def test_six_arms_of_a_handle(self):
        arms = tuple((name, ("x",), int_at(4)) for name in ("Div", "Index", "Size", "a", "b", "c"))
        self.assertIsNone(kind_fault(tree_of(("handle", 9, None, (int_at(3),), arms), exceptions=("a", "b", "c"))))

    def test_unknown_ops(self):
        for op in ("", "other", "Int", "new", "end", "data", "fun", "true", "%"):
            self.assertEqual(self.fault(op, 0, 0), 9)
            self.assertEqual(self.fault(op, 1, 0), 9)
            self.assertEqual(self.fault(op, 2, 1), 9)

    def test_info_where_none_is_allowed(self):
        for op in self.KIDS:
            if op not in self.INFOS:
                for info in (0, False, "", (), "x", ("x", INT), deep(90)):
                    with self.subTest(op=op, info=info):
                        self.assertEqual(self.fault(op, self.KIDS[op][0], self.ARMS.get(op, (0, 0))[0], info), 9)

    def test_a_wrong_info_comes_after_the_number_of_kids(self):
        self.assert_refused_at_9(("get", 9, None, (), ()), ("name", 9, None, (int_at(3),), ()))


def tuple_of(*sizes):
    """The text of a tuple of tuples of integers; its kind has one node more than all of theirs."""
    return f"(tuple {' '.join('(tuple' + ' 1' * size + ')' for size in sizes)})"


class KindLimitTest(RowTest):
    # Kinds with 30, 31 and 32 nodes.
    SMALL = tuple_of(4, 4, 4, 4, 4, 3)
    MIDDLE = tuple_of(4, 4, 4, 4, 4, 4)
    LARGE = tuple_of(4, 4, 4, 4, 4, 5)

    def test_sizes(self):
        sizes = [kind_size(typed(body)[1]) for body in (self.SMALL, self.MIDDLE, self.LARGE)]
        self.assertEqual(sizes, [30, 31, 32])

    def test_tuple(self):
        self.assert_kind(f"(get 0 {self.LARGE})", ("tuple", (INT,) * 4, 0))
        self.assert_refused(f"^{tuple_of(4, 4, 4, 4, 4, 6)}", f"^(tuple {self.MIDDLE} 1)",
            f"^(tuple {self.LARGE} {self.LARGE})")

    def test_ref_and_array(self):
        middle = typed(self.MIDDLE)[1]
        self.assert_kind(f"(ref {self.MIDDLE})", ("ref", (middle,), 0))
        self.assert_kind(f"(array 1 {self.MIDDLE})", ("array", (middle,), 0))
        self.assert_refused(f"^(ref {self.LARGE})", f"^(array 1 {self.LARGE})", f"(seq ^(ref {self.LARGE}) x)")

    def test_fn(self):
        self.assert_kind(f"(fn (x int) {self.SMALL})", ("fn", (INT, typed(self.SMALL)[1]), 0))
        self.assert_refused(f"^(fn (x int) {self.MIDDLE})", f"^(fn (x int) {self.LARGE})")
        small = self.SMALL.replace("1", "int")
        self.assert_kind(f"(fn (x {small}) 1)", ("fn", (typed(self.SMALL)[1], INT), 0))
        self.assert_refused(f"^(fn (x {self.MIDDLE.replace('1', 'int')}) 1)", f"^(fn (x {small}) x)")

    def test_written_kinds(self):
        large = self.LARGE.replace("1", "int")
        self.assert_kind(f"(raise Div {large} 1)", typed(self.LARGE)[1])
        self.assert_refused(f"^(raise Div (ref {large}) 1)", f"^(fn (x (ref {large})) y)")

    def test_after_the_other_conditions(self):
        self.assert_refused(f"(array ^true {self.LARGE})", f"(tuple {self.LARGE} ^x)",
            f"(tuple 1 ^(tuple {self.LARGE} 1) x)")


class ResultTest(unittest.TestCase):
    def test_the_body_has_the_result_kind(self):
        for text in (
            "(fun main () int ^true)", "(fun f () bool ^1) (fun main () int 1)",
            "(fun f () (ref int) ^(ref true)) (fun main () int 1)",
            "(fun main () int ^(let x 1 unit))", "(fun main () int (seq 1 ^x))",
            "(fun f () bool ^1) (fun main () int x)",
        ):
            plain, at = split_mark(text)
            self.assertEqual(kind_fault(read_program(plain)), at)


class ExampleTest(unittest.TestCase):
    def test_example(self):
        self.assertEqual(
            with_kinds(read_program("(fun main ((n int)) int (add n 1))")),
            ((), ('Div', 'Index', 'Size'), (('main', (('n', ('int', (), 0)),), ('int', (), 0), (
                'add', ('int', (), 0), None,
                (('name', ('int', (), 0), 'n', (), ()), ('int', ('int', (), 0), 1, (), ())), ())),)),
        )


if __name__ == "__main__":
    unittest.main()
