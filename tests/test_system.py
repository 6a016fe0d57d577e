"""Building and running texts, reports, and sessions."""

import inspect
import types
import unittest

from escheat import bounds, flat, machine, place, system
from escheat.errors import CertificateError, CommandError, KindError, TextError
from escheat.kinds import with_kinds
from escheat.system import Session
from escheat.words import read_program

EXAMPLE = "(fun main ((n int)) int (get 0 (tuple (add n 1) n)))"
LISTS = ("(data list (Nil) (Cons int list)) (fun build ((n int)) list (if (less 0 n) (Cons n (build (sub n 1))) (Nil))) "
         "(fun length ((xs list)) int (case xs ((Nil) 0) ((Cons x rest) (add 1 (length rest))))) "
         "(fun main ((n int)) int (length (build n)))")
PRINTS = "(exception lost) (fun main ((n int) (m int)) int (seq (print n) (seq (print (sub 0 m)) (raise lost int (div n m)))))"
CLOSURE = "(fun main ((n int)) int (apply (fn (x int) (get 0 (tuple x n))) n))"


class BuildTest(unittest.TestCase):
    def test_parts(self):
        for text in (EXAMPLE, LISTS, PRINTS, CLOSURE, "(fun main () int 7)"):
            found = system.build(text)
            self.assertEqual((type(found), len(found)), (tuple, 4))
            tree, program, placed, code = found
            self.assertEqual(tree, with_kinds(read_program(text)))
            self.assertEqual(program, flat.flatten(tree))
            self.assertEqual(placed, place.build(program))
            self.assertEqual(code, machine.translate(placed))

    def refuse(self, text, error, at):
        for judge in (system.build, lambda it: system.run_text(it, (1,)), lambda it: system.report(it, (), (1,)),
                      lambda it: system.report(it, None, ()), lambda it: Session().load(it)):
            with self.assertRaises(error) as caught:
                judge(text)
            self.assertEqual((type(caught.exception), caught.exception.at), (error, at))

    def test_errors(self):
        self.refuse("", TextError, 0)
        self.refuse("(fun main () int 007)", TextError, 17)
        self.refuse("(fun main () int 7", TextError, 18)
        self.refuse("(fun f () int 7)", TextError, 16)
        self.refuse(" " * 6001, TextError, 0)
        self.refuse("(fun main () int (if 1 2 3))", KindError, 21)
        self.refuse("(fun main ((n int)) int m)", KindError, 24)
        # The first error of the first part that raises one.
        self.refuse("(fun main () int (if 1 2 03))", TextError, 25)


class RunTextTest(unittest.TestCase):
    def test_example(self):
        self.assertEqual(system.run_text(EXAMPLE, [4], fuel=9), ((None, 5, (), 0), 2, 0, (
            ("new", 0, 0, 0), ("cell", 0, 2, 2), ("touch", 0, 0, 2), ("end", 0, 2, 0))))

    def test_runs(self):
        for text, arguments in ((EXAMPLE, (4,)), (LISTS, (6,)), (PRINTS, (6, 2)), (PRINTS, (6, 0)), (CLOSURE, (3,)), (LISTS, ())):
            code = system.build(text)[3]
            self.assertEqual(system.run_text(text, arguments), machine.run(code, arguments))
            for fuel in (0, 5, 13, 200, 1000):
                self.assertEqual(system.run_text(text, arguments, fuel=fuel), machine.run(code, arguments, fuel=fuel))

    def test_results(self):
        self.assertEqual(system.run_text(LISTS, (6,))[0], (None, 6, (), 14))
        self.assertEqual(system.run_text(PRINTS, (6, 2))[0], (("raised", "lost", 3), 0, (6, -2), 0))
        self.assertEqual(system.run_text(PRINTS, (6, 0))[0], (("raised", "Div", 0), 0, (6, 0), 0))
        self.assertEqual(system.run_text(PRINTS, (6,))[0], (("stuck",), 0, (), 0))
        self.assertEqual(system.run_text(LISTS, (6,), fuel=13)[0], (("fuel",), 0, (), 13))


class ReportTest(unittest.TestCase):
    GIVEN = ((0, (), (2, 0), (), None),)

    def test_reports(self):
        for given in (self.GIVEN, list(self.GIVEN)):
            self.assertEqual(system.report(EXAMPLE, given, (4,), fuel=9), (system.run_text(EXAMPLE, (4,), fuel=9), 2))
        self.assertEqual(system.report(EXAMPLE, ((0, (), (2, 10), (), None),), [4])[1], 42)
        self.assertEqual(system.report(EXAMPLE, ((0, (), (2, 10), (), None),), [-4])[1], 2)
        found = bounds.find(system.build(LISTS)[2])
        for argument in (0, 1, 5, 40, 300, -3, 2 ** 32 + 2):
            for fuel in (0, 3, 200):
                metered, bound = system.report(LISTS, found, (argument,), fuel=fuel)
                self.assertEqual(metered, system.run_text(LISTS, (argument,), fuel=fuel))
                self.assertEqual(bound, bounds.bound(system.build(LISTS)[2], found, (argument,)))
                self.assertLessEqual(metered[1], bound)

    def refuse(self, text, given, arguments, number, reason):
        with self.assertRaises(CertificateError) as caught:
            system.report(text, given, arguments)
        self.assertEqual((caught.exception.number, caught.exception.reason), (number, reason))

    def test_refused(self):
        for arguments in ((), (1,), (1, 2)):
            self.refuse(EXAMPLE, ((0, (), (1, 0), (), None),), arguments, 0, "bound")
            self.refuse(EXAMPLE, (), arguments, -1, "main")
            self.refuse(EXAMPLE, None, arguments, -1, "main")
            self.refuse(EXAMPLE, (*self.GIVEN, None), arguments, 1, "shape")
        for arguments in ((), (1, 2)):
            self.refuse(EXAMPLE, self.GIVEN, arguments, -1, "arguments")
        self.refuse(CLOSURE, ((0, (), (10 ** 12, 10 ** 12), (), None),), (1,), 0, "bound")


class CommandsTest(unittest.TestCase):
    def setUp(self):
        self.session = Session()

    def answer(self, line, *wanted):
        found = self.session.answer(line)
        self.assertEqual((type(found), found), (list, list(wanted)))

    def test_example(self):
        self.session.load(EXAMPLE)
        self.answer("run 9 4", "answer 5", "ticks 0 peak 2 left 0")
        self.answer("events 9 4", "new 0", "cell 0 2 held 2", "touch 0", "end 0 2 held 0")

    def test_regions(self):
        self.session.load(EXAMPLE)
        self.answer("regions", "main formals 0 touched 0 begun 1")
        self.session.load(LISTS)
        self.answer("regions", "build formals 1 touched 1 begun 0", "length formals 1 touched 1 begun 0",
                    "main formals 0 touched 0 begun 1")
        self.session.load(CLOSURE)
        self.answer("regions", "main formals 0 touched 0 begun 2")
        self.session.load("(fun f ((t (tuple int int)) (u (tuple int int))) int (get 0 t)) "
                          "(fun main ((n int)) int (if (less n 1) (f (tuple n n) (tuple n 1)) (get 0 (tuple n n))))")
        self.answer("regions", "f formals 2 touched 1 begun 0", "main formals 0 touched 0 begun 3")

    def test_regions_as_they_were_placed(self):
        for text in (EXAMPLE, LISTS, CLOSURE, PRINTS):
            self.session.load(text)
            placed = system.build(text)[2]
            wanted = []
            for name, formals, touch, _, _, body in placed[2]:
                wanted.append(f"{name} formals {formals} touched {len(touch)} begun {str(body).count(repr('new'))}")
            self.assertEqual(self.session.answer("regions"), wanted)

    def test_run(self):
        self.session.load(PRINTS)
        self.answer("run 9 6 2", "out 6", "out -2", "raised lost 3", "ticks 0 peak 0 left 0")
        self.answer("run 9 6 0", "out 6", "out 0", "raised Div 0", "ticks 0 peak 0 left 0")
        for line in ("run 9", "run 9 6", "run 9 6 2 1", "run 9 1 2 3 4 5 6 7 8"):
            self.answer(line, "stuck", "ticks 0 peak 0 left 0")
        self.session.load(LISTS)
        self.answer("run 200 6", "answer 6", "ticks 14 peak 18 left 0")
        self.answer("run 14 6", "answer 6", "ticks 14 peak 18 left 0")
        self.answer("run 13 6", "fuel", "ticks 13 peak 18 left 18")
        self.answer("run 0 6", "fuel", "ticks 0 peak 0 left 0")
        self.answer("run -5 6", "fuel", "ticks 0 peak 0 left 0")
        self.answer("run 999999999999 -6", "answer 0", "ticks 2 peak 0 left 0")
        self.answer("run 999999999999 200", "fuel", "ticks 200 peak 0 left 0")
        self.session.load("(fun main () int (sub 3 5))")
        self.answer("run 0", "answer -2", "ticks 0 peak 0 left 0")
        self.answer("run 0 1", "stuck", "ticks 0 peak 0 left 0")

    def test_arguments_are_wrapped(self):
        self.session.load("(fun main ((n int)) int n)")
        self.answer("run 0 2147483648", "answer -2147483648", "ticks 0 peak 0 left 0")
        self.answer("run 0 -999999999999", f"answer {(-999999999999 + 2 ** 31) % 2 ** 32 - 2 ** 31}", "ticks 0 peak 0 left 0")

    def test_events(self):
        self.session.load(LISTS)
        self.answer("events 200 1", "new 0", "cell 0 3 held 3", "touch 0", "end 0 3 held 0")
        self.answer("events 2 1", "new 0", "cell 0 3 held 3")
        for line in ("events 200", "events 200 1 2"):
            self.answer(line)
        self.session.load("(fun main ((n int)) int (let a (array 2 n) (at a 5)))")
        self.answer("events 9 1", "new 0", "cell 0 3 held 3", "touch 0", "end 0 3 held 0")

    def test_bound(self):
        self.session.load(EXAMPLE)
        for argument in ("0", "4", "-4", "2147483648"):
            self.answer("bound " + argument, "bound 2")
        for line in ("bound", "bound 1 2", "bound 1 2 3 4"):
            self.answer(line, "no bound")
        self.session.load(CLOSURE)
        for line in ("bound", "bound 1", "bound 1 2"):
            self.answer(line, "no bound")
        self.session.load(LISTS)
        placed = system.build(LISTS)[2]
        for argument in (0, 7, -7, 999999999999):
            self.answer(f"bound {argument}", f"bound {bounds.bound(placed, bounds.find(placed), (argument,))}")
        self.session.load("(fun main () int 3)")
        self.answer("bound", "bound 0")
        self.answer("bound 1", "no bound")


class LinesTest(unittest.TestCase):
    WRONG = (
        "", " ", "  ", "run  9 4", "run 9  4", " run 9 4", "run 9 4 ", "regions ", " regions", "Run 9 4", "RUN", "run", "events",
        "regions 1", "regions regions", "stop", "regionsx", "run9 4", "run nine 4", "run 9 four", "run 9 4.0", "run 9 +4",
        "run 09 4", "run 00 4", "run 9 -0", "run -0 4", "run 9 -04", "run 9 04", "run 9 -", "run 9 --4", "run 9 4-",
        "run 1234567890123 4", "run 9 1234567890123", "run 9 -1234567890123", "events 9 x", "events x", "bound x", "bound -0",
        "bound 1 x", "bound 1234567890123", "run\t9 4", "run 9\t4", "run 9 4\n", "regions\n", "run 9 1e3", "run 9 0x4", "run 9 1_0",
        "run 9 (4)", "load", "load " + EXAMPLE, "9 4", "run run", "run 9 4 run", "answer", "bound bound", ";",
    )

    def fault(self, session, line):
        try:
            return session.answer(line)
        except CommandError as error:
            self.assertEqual(type(error), CommandError)
            self.assertEqual(error.line, line)
            return None

    def test_wrong_lines(self):
        for text in (None, EXAMPLE):
            session = Session()
            if text is not None:
                session.load(text)
            session_answers = list(session)
            for line in self.WRONG:
                with self.subTest(line=line, text=text):
                    self.assertIsNone(self.fault(session, line))
                    self.assertEqual((list(session), len(session)), (session_answers, 0))
            self.assertEqual(session.loaded, text is not None)

    def test_nothing_changes(self):
        session = Session()
        session.load(EXAMPLE)
        session.answer("run 9 4")
        for line in self.WRONG:
            self.assertIsNone(self.fault(session, line))
        self.assertEqual(list(session), ["answer 5", "ticks 0 peak 2 left 0"])
        self.assertEqual(session.answer("run 9 6"), ["answer 7", "ticks 0 peak 2 left 0"])

    def test_numbers_that_are_right(self):
        session = Session()
        session.load(EXAMPLE)
        for line in ("run 0 0", "run 9 -1", "run 123456789012 4", "run 9 123456789012", "run -123456789012 -123456789012",
                     "run 9 100000000000", "run 10 10", "run 9 -10"):
            self.assertIsNotNone(self.fault(session, line))

    def test_without_a_program(self):
        session = Session()
        for line in ("regions", "run 9 4", "run 9", "events 9 4", "bound 1", "bound"):
            self.assertIsNone(self.fault(session, line))
        self.assertEqual((len(session), list(session), session.loaded), (0, [], False))


class SessionTest(unittest.TestCase):
    def test_loaded(self):
        session = Session()
        self.assertIs(session.loaded, False)
        self.assertIsNone(session.load(EXAMPLE))
        self.assertIs(session.loaded, True)

    def test_a_text_replaces_the_one_before(self):
        session = Session()
        session.load(EXAMPLE)
        session.load("(fun main () int 8)")
        self.assertEqual(session.answer("run 0"), ["answer 8", "ticks 0 peak 0 left 0"])

    def test_a_text_that_is_refused(self):
        for first in (None, EXAMPLE):
            session = Session()
            if first is not None:
                session.load(first)
                session.answer("run 9 4")
            before = list(session)
            for text, error in (("(fun main () int (if 1 2 3))", KindError), ("(fun main () int", TextError), ("", TextError)):
                with self.assertRaises(error):
                    session.load(text)
                self.assertEqual((session.loaded, list(session)), (first is not None, before))
            if first is not None:
                self.assertEqual(session.answer("run 9 4"), ["answer 5", "ticks 0 peak 2 left 0"])

    def test_all_answers(self):
        session = Session()
        self.assertEqual((len(session), list(session)), (0, []))
        session.load(EXAMPLE)
        self.assertEqual(len(session), 0)
        wanted = []
        for line in ("run 9 4", "events 9", "bound 1", "events 9 4", "regions", "run 9"):
            wanted.extend(session.answer(line))
            self.assertEqual((len(session), list(session)), (len(wanted), wanted))
        session.load(LISTS)
        self.assertEqual((len(session), list(session)), (len(wanted), wanted))
        wanted.extend(session.answer("run 9 1"))
        self.assertEqual([one for one in session], wanted)
        self.assertEqual(len(session), len(wanted))

    def test_a_generator(self):
        session = Session()
        session.load(EXAMPLE)
        session.answer("run 9 4")
        self.assertIsInstance(iter(session), types.GeneratorType)
        self.assertTrue(inspect.isgenerator(iter(session)))
        # Two at once go on by themselves.
        first, second = iter(session), iter(session)
        self.assertEqual((next(first), next(second), next(first)), ("answer 5", "answer 5", "ticks 0 peak 2 left 0"))

    def test_the_answers_belong_to_the_caller(self):
        session = Session()
        session.load(EXAMPLE)
        found = session.answer("run 9 4")
        found.clear()
        self.assertEqual(len(session), 2)

    def test_sessions_are_separate(self):
        first, second = Session(), Session()
        first.load(EXAMPLE)
        first.answer("run 9 4")
        self.assertEqual((len(second), second.loaded), (0, False))


if __name__ == "__main__":
    unittest.main()
