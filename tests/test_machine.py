"""Runs of code: what each instruction does, and its events."""

import unittest

from escheat import machine
from tests import machine_reference
from tests.codes import body, code, main_of
from tests.helpers import FIRST

HUGE = 10 ** 30


class RunTest(unittest.TestCase):
    def run_code(self, value, arguments=(7,), fuel=200):
        found = machine.run(value, arguments, fuel=fuel)
        self.assertEqual(found, machine_reference.run(value, arguments, fuel))
        return found

    def check(self, value, wanted, *, arguments=(7,), fuel=200, fault=None, answer=None, outs=(), ticks=0, left=None):
        """Check a run. Events are given without what is held; 'new' and 'touch' without words, 'end' without them too."""
        result, peak, words_left, events = self.run_code(value, arguments, fuel)
        held, sizes, full = 0, {}, []
        for what, instance, *more in wanted:
            many = more[0] if more else 0
            if what == "cell":
                sizes[instance] = sizes.get(instance, 0) + many
                held += many
            if what == "end":
                many = sizes.pop(instance, 0)
                held -= many
            full.append((what, instance, many, held))
        self.assertEqual(events, tuple(full))
        self.assertEqual(peak, max([event[3] for event in full], default=0))
        self.assertEqual(words_left, held)
        if left is not None:
            self.assertEqual(words_left, left)
        self.assertEqual(result[0], fault)
        if answer is not None:
            self.assertEqual(result[1], answer)
        if fault is not None:
            self.assertEqual(result[1], 0)
        self.assertEqual(result[2:], (outs, ticks))

    def answers(self, *instructions, arguments=(7,), **more):
        """The answer of a main body that returns register 1."""
        result = self.run_code(main_of(*instructions, ("return", 1), **more), arguments)[0]
        self.assertEqual(result[0], None)
        return result[1]


class InterfaceTest(unittest.TestCase):
    BODY = ((0,), (), -1, 3, (("begin", 0), ("cell", 1, 0, (), (0, 0)), ("load", 2, 1, 0), ("end", 0), ("return", 2)))
    LATE = ((0,), (), -1, 3, (("begin", 0), ("cell", 1, 0, (), (0, 0)), ("end", 0), ("load", 2, 1, 0), ("return", 2)))

    def test_examples(self):
        found = machine.run((("Div", "Index", "Size"), (self.BODY,), 0), (7,), fuel=0)
        self.assertEqual(found, ((None, 7, (), 0), 2, 0, (
            ("new", 0, 0, 0), ("cell", 0, 2, 2), ("touch", 0, 0, 2), ("end", 0, 2, 0))))
        found = machine.run((("Div", "Index", "Size"), (self.LATE,), 0), (7,), fuel=0)
        self.assertEqual(found, ((None, 0, (), 0), 2, 0, (
            ("new", 0, 0, 0), ("cell", 0, 2, 2), ("end", 0, 2, 0), ("touch", -1, 0, 0))))

    def test_kinds_of_values(self):
        found = machine.run((("Div", "Index", "Size"), (self.BODY,), 0), [7])
        self.assertEqual([type(part) for part in found], [tuple, int, int, tuple])
        self.assertEqual(found, machine.run((("Div", "Index", "Size"), (self.BODY,), 0), (7,)))

    def test_the_arguments_stay(self):
        arguments = [2 ** 31]
        machine.run((("Div", "Index", "Size"), (self.BODY,), 0), arguments)
        self.assertEqual(arguments, [2 ** 31])


class ArgumentsTest(RunTest):
    def test_wrong_number(self):
        value = main_of(("begin", 0), ("print", 0), ("return", 0), inputs=(0, 1))
        for arguments in ((), (1,), (1, 2, 3)):
            self.assertEqual(self.run_code(value, arguments), ((("stuck",), 0, (), 0), 0, 0, ()))
        self.assertEqual(self.run_code(value, (1, 2))[0], (None, 1, (1,), 0))

    def test_wrapped(self):
        value = main_of(("return", 0))
        for argument, answer in ((2 ** 31, -2 ** 31), (-2 ** 31 - 1, 2 ** 31 - 1), (HUGE, machine_reference.wrap(HUGE)),
                                 (-2 ** 31, -2 ** 31), (2 ** 31 - 1, 2 ** 31 - 1)):
            self.assertEqual(self.run_code(value, (argument,))[0], (None, answer, (), 0))

    def test_inputs(self):
        self.check(main_of(("print", 1), ("print", 2), ("print", 0), ("return", 2), inputs=(2, 1)), (), arguments=(5, 6),
                   outs=(6, 5, 0), answer=5)

    def test_a_register_that_stands_twice(self):
        self.check(main_of(("return", 3), inputs=(3, 3, 3)), (), arguments=(5, 6, 8), answer=8)
        self.check(main_of(("return", 3), inputs=(3, 1, 3)), (), arguments=(5, 6, 8), answer=8)

    def test_more_than_three(self):
        self.check(main_of(("return", 4), inputs=(0, 1, 2, 3, 4)), (), arguments=(5, 6, 8, 9, 10), answer=10)

    def test_the_main_body_need_not_be_the_last(self):
        value = code(body(("return", 0)), body(("raise", 0, 0)), main=0)
        self.check(value, (), answer=7)


class RegistersTest(RunTest):
    def test_all_0_at_first(self):
        self.assertEqual(self.answers(), 0)
        self.assertEqual(self.answers(("copy", 1, 8)), 0)

    def test_set_and_copy(self):
        for number in (0, 1, -1, 2 ** 31, -2 ** 31 - 1, HUGE, -HUGE):
            self.assertEqual(self.answers(("set", 1, number)), number)
            self.assertEqual(self.answers(("set", 2, number), ("copy", 1, 2)), number)
        self.assertEqual(self.answers(("copy", 1, 0), ("set", 0, 5)), 7)

    def test_very_many(self):
        last = 10 ** 20
        value = main_of(("set", last - 1, 5), ("copy", 1, last - 1), ("return", 1), registers=last)
        self.check(value, (), answer=5)

    def test_print(self):
        rows = [("set", 1, HUGE), ("print", 1), ("print", 0), ("print", 1), ("print", 2)]
        self.check(main_of(*rows, ("return", 0)), (), outs=(HUGE, 7, HUGE, 0), answer=7)

    def test_arithmetic(self):
        most, least = 2 ** 31 - 1, -2 ** 31
        for op, one, other, wanted in (
            ("add", 2, 3, 5), ("add", most, 1, least), ("add", HUGE, 1, machine_reference.wrap(HUGE + 1)),
            ("sub", 2, 3, -1), ("sub", least, 1, most), ("mul", -4, 5, -20), ("mul", 65536, 65536, 0),
            ("mul", 65536, 32768, least), ("mul", HUGE, HUGE, machine_reference.wrap(HUGE ** 2)),
            ("div", -7, 2, -3), ("div", 7, -2, -3), ("div", -7, -2, 3), ("div", 7, 2, 3), ("div", least, -1, least),
            ("div", HUGE, 1, machine_reference.wrap(HUGE)), ("rem", -7, 2, -1), ("rem", 7, -2, 1), ("rem", -7, -2, -1),
            ("rem", least, -1, 0), ("rem", HUGE, HUGE + 1, machine_reference.wrap(HUGE)),
            ("equal", 3, 3, 1), ("equal", 3, 4, 0), ("equal", HUGE, HUGE, 1), ("less", 3, 4, 1), ("less", 4, 4, 0),
            ("less", -HUGE, HUGE, 1), ("less", 5, 4, 0),
        ):
            with self.subTest(op=op, one=one, other=other):
                found = self.answers(("set", 2, one), ("set", 3, other), (op, 1, 2, 3))
                self.assertEqual((found, type(found)), (wanted, int))

    def test_division_by_zero(self):
        for op in ("div", "rem"):
            self.check(main_of((op, 1, 0, 2), ("return", 1)), (), fault=("raised", "Div", 0))

    def test_an_answer_of_any_size(self):
        self.check(main_of(("set", 1, -HUGE), ("return", 1)), (), answer=-HUGE)


class JumpsTest(RunTest):
    def test_jump(self):
        self.assertEqual(self.answers(("jump", 2), ("set", 1, 5), ("print", 0)), 0)

    def test_branch(self):
        rows = (("branch", 0, 2), ("set", 1, 5))
        for argument, answer in ((0, 0), (1, 5), (-1, 5), (7, 5)):
            self.assertEqual(self.answers(*rows, arguments=(argument,)), answer)

    def test_no_events(self):
        self.check(main_of(("branch", 0, 1), ("jump", 2), ("copy", 1, 0), ("set", 1, 3), ("add", 1, 1, 1), ("try", (), ()),
                           ("untry",), ("print", 1), ("return", 1)), (), outs=(6,), answer=6)


class CellsTest(RunTest):
    def test_cell(self):
        rows = [("begin", 4), ("set", 2, HUGE), ("cell", 1, 4, (3,), (0, 2, 0))]
        self.check(main_of(*rows, ("return", 1)), [("new", 0), ("cell", 0, 4)], answer=64, left=4)
        for offset, wanted in enumerate((3, 7, HUGE, 7, 0, 0)):
            self.assertEqual(self.answers(*rows, ("load", 1, 1, offset)), wanted)
        self.assertEqual(self.answers(("begin", 4), ("cell", 1, 4, (63,), ()), ("load", 1, 1, 0)), 63)
        self.assertEqual(self.answers(("begin", 4), ("cell", 1, 4, (), (0,)), ("load", 1, 1, 0)), 7)

    def test_where_cells_stand(self):
        """Pointers are addresses of the store plus 64."""
        rows = [("begin", 0), ("begin", 1)]
        rows += [("cell", 2, name, (), (0,) * many) for name, many in ((0, 3), (1, 3), (0, 5), (0, 1), (1, 9))]
        rows[2:] = [one for row in rows[2:] for one in (row, ("print", 2))]
        self.assertEqual(self.run_code(main_of(*rows, ("return", 0)))[0][2], (64, 72, 67, 80, 88))

    def test_the_register_of_a_cell_may_stand_in_it(self):
        self.assertEqual(self.answers(("begin", 0), ("set", 2, 5), ("cell", 2, 0, (), (2, 0)), ("load", 1, 2, 0)), 5)

    def test_load_and_store(self):
        rows = [("begin", 0), ("begin", 1), ("cell", 3, 0, (), (0, 0)), ("cell", 4, 1, (), (0,)), ("store", 3, 1, 4),
                ("load", 5, 4, 0), ("load", 6, 3, 1), ("end", 1), ("load", 7, 4, 0), ("store", 4, 0, 3), ("load", 8, 3, 0)]
        events = [("new", 0), ("new", 1), ("cell", 0, 2), ("cell", 1, 1), ("touch", 0), ("touch", 1), ("touch", 0),
                  ("end", 1), ("touch", -1), ("touch", -1), ("touch", 0)]
        for register, answer in ((5, 7), (6, 72), (7, 0), (8, 7)):
            self.check(main_of(*rows, ("return", register)), events, answer=answer, left=2)

    def test_any_pointer(self):
        """The machine does not ask where a pointer points to; the touch has the owner of the page at offset 0."""
        rows = [("begin", 0), ("cell", 3, 0, (), (0,) * 8)]
        for pointer, offset, owner, word in ((64, 7, 0, 7), (64, 8, 0, 0), (71, 0, 0, 7), (72, 0, -1, 0), (63, 1, -1, 7),
                                             (1, 63, -1, 7), (0, 0, -1, 0), (-5, 0, -1, 0), (HUGE, 5, -1, 0), (70, 1, 0, 7),
                                             (-HUGE, 63, -1, 0), (8, 63, -1, 7), (9, 63, -1, 0)):
            self.check(main_of(*rows, ("set", 1, pointer), ("load", 2, 1, offset), ("return", 2)),
                       [("new", 0), ("cell", 0, 8), ("touch", owner)], answer=word)
        self.check(main_of(*rows, ("set", 1, 1), ("store", 1, 63, 3), ("load", 2, 3, 0), ("return", 2)),
                   [("new", 0), ("cell", 0, 8), ("touch", -1), ("touch", 0)], answer=64)

    def test_a_store_beyond_all_pages_changes_nothing(self):
        rows = [("begin", 0), ("cell", 3, 0, (), (0,)), ("set", 1, 72), ("store", 1, 0, 0), ("load", 2, 1, 0)]
        self.check(main_of(*rows, ("return", 2)), [("new", 0), ("cell", 0, 1), ("touch", -1), ("touch", -1)], answer=0)

    def test_a_page_of_another_region(self):
        """What points to a page that another region has taken sees that one's words."""
        rows = [("begin", 0), ("cell", 3, 0, (), (0,)), ("end", 0), ("begin", 5), ("cell", 4, 5, (), (3, 3)),
                ("load", 1, 3, 0), ("store", 3, 1, 0), ("load", 2, 4, 1)]
        self.check(main_of(*rows, ("return", 1)), [("new", 0), ("cell", 0, 1), ("end", 0), ("new", 1), ("cell", 1, 2),
                                                   ("touch", 1), ("touch", 1), ("touch", 1)], answer=64, left=2)
        self.check(main_of(*rows, ("return", 2)), [("new", 0), ("cell", 0, 1), ("end", 0), ("new", 1), ("cell", 1, 2),
                                                   ("touch", 1), ("touch", 1), ("touch", 1)], answer=7)

    def test_begin_a_name_again(self):
        """The handle of the name is a new one; the instance before it stays."""
        rows = [("begin", 0), ("cell", 1, 0, (), (0,)), ("begin", 0), ("cell", 2, 0, (), (0, 0)), ("end", 0)]
        self.check(main_of(*rows, ("return", 0)), [("new", 0), ("cell", 0, 1), ("new", 1), ("cell", 1, 2), ("end", 1)],
                   answer=7, left=1)

    def test_names_of_any_size(self):
        rows = [("begin", HUGE), ("cell", 1, HUGE, (), (0,)), ("end", HUGE)]
        self.check(main_of(*rows, ("return", 0)), [("new", 0), ("cell", 0, 1), ("end", 0)], answer=7)

    def test_what_is_left(self):
        self.check(main_of(("begin", 0), ("cell", 1, 0, (), (0,) * 9), ("return", 0)), [("new", 0), ("cell", 0, 9)], left=9)


class ArraysTest(RunTest):
    def rows(self, count):
        return [("begin", 0), ("set", 2, count), ("array", 3, 0, 2, 0)]

    def test_array(self):
        for count in (0, 1, 12):
            self.check(main_of(*self.rows(count), ("load", 1, 3, 0), ("return", 1)),
                       [("new", 0), ("cell", 0, 1 + count), ("touch", 0)], answer=count, ticks=count)

    def test_size(self):
        for count in (13, -1, -HUGE, HUGE, 2 ** 31):
            self.check(main_of(*self.rows(count), ("return", 1)), [("new", 0), ("end", 0)], fault=("raised", "Size", count))

    def test_fuel(self):
        for fuel in (4, 3, 0, -5):
            self.check(main_of(*self.rows(5), ("return", 1)), [("new", 0)], fuel=fuel, fault=("fuel",), ticks=max(fuel, 0))
        self.check(main_of(*self.rows(5), ("return", 0)), [("new", 0), ("cell", 0, 6)], fuel=5, ticks=5, answer=7)

    def test_item(self):
        rows = [*self.rows(3), ("set", 4, 9), ("set", 6, 2), ("put", 3, 6, 4)]
        events = [("new", 0), ("cell", 0, 4), ("touch", 0), ("touch", 0)]
        for index, wanted in ((0, 7), (1, 7), (2, 9)):
            self.check(main_of(*rows, ("set", 5, index), ("item", 1, 3, 5), ("return", 1)), events, answer=wanted, ticks=3)
        for index in (-1, 3, 4, HUGE, -HUGE):
            for row in (("item", 1, 3, 5), ("put", 3, 5, 5)):
                self.check(main_of(*rows, ("set", 5, index), row, ("return", 1)), [*events, ("end", 0)], ticks=3,
                           fault=("raised", "Index", index))

    def test_put_replaces_one(self):
        for index in range(3):
            rows = [*self.rows(3), ("set", 5, index), ("set", 6, HUGE), ("put", 3, 5, 6)]
            found = []
            for offset in range(4):
                found.append(self.answers(*rows, ("load", 1, 3, offset)))
            self.assertEqual(found, [3] + [HUGE if at == index else 7 for at in range(3)])

    def test_the_length_is_the_word_at_offset_0(self):
        rows = [*self.rows(3), ("set", 4, 100), ("store", 3, 0, 4), ("set", 5, 3), ("item", 1, 3, 5)]
        self.assertEqual(self.answers(*rows), 0)
        rows = [("begin", 0), ("cell", 3, 0, (2,), (0,)), ("set", 5, 1), ("item", 1, 3, 5)]
        self.assertEqual(self.answers(*rows), 0)

    def test_of_what_is_no_page(self):
        for pointer in (0, 5, 500, -3):
            rows = [("set", 2, pointer), ("item", 1, 2, 3)]
            self.check(main_of(*rows, ("return", 1)), [("touch", -1)], fault=("raised", "Index", 0))


class SwitchTest(RunTest):
    def rows(self, *before):
        """Register 2 is looked at; the arms give 10, 11 and 12, and print what registers 3 and 4 hold."""
        first = len(before) + 1
        return (*before, ("switch", 2, ((first, ()), (first + 2, (3, 4)), (first + 4, (4,)))),
                ("set", 1, 10), ("jump", first + 5), ("set", 1, 11), ("jump", first + 5), ("set", 1, 12),
                ("print", 3), ("print", 4), ("return", 1))

    def test_without_a_cell(self):
        for number in (0, 1, 2):
            rows = self.rows(("set", 2, number), ("set", 3, 5), ("set", 4, 6))
            self.check(main_of(*rows), (), answer=10 + number, outs=(5, 6))

    def test_with_a_cell(self):
        for number, outs in ((0, (5, 6)), (1, (7, 8)), (2, (5, 7))):
            rows = self.rows(("begin", 0), ("set", 5, 8), ("cell", 2, 0, (number,), (0, 5)), ("set", 3, 5), ("set", 4, 6))
            self.check(main_of(*rows), [("new", 0), ("cell", 0, 3), ("touch", 0)], answer=10 + number, outs=outs)

    def test_of_what_is_no_page(self):
        for pointer in (64, 500, HUGE):
            self.check(main_of(*self.rows(("set", 2, pointer))), [("touch", -1)], answer=10, outs=(0, 0))

    def test_of_a_negative_value(self):
        for pointer in (-1, -63, -64, -HUGE):
            rows = self.rows(("begin", 0), ("cell", 3, 0, (2,), (0, 0)), ("set", 3, 5), ("set", 2, pointer))
            self.check(main_of(*rows), [("new", 0), ("cell", 0, 3), ("touch", -1)], answer=10, outs=(5, 0))

    def test_the_words_of_a_negative_value(self):
        """They are read like those of any pointer, and may lie at addresses of pages if there are very many."""
        regs = (3,) * 63 + (4, 5)
        value = main_of(("begin", 0), ("cell", 2, 0, (), (0, 0, 0)), ("set", 1, -1), ("switch", 1, ((4, regs),)),
                        ("print", 3), ("print", 4), ("print", 5), ("return", 1))
        self.check(value, [("new", 0), ("cell", 0, 3), ("touch", -1)], answer=-1, outs=(0, 0, 7))

    def test_a_register_that_stands_twice(self):
        value = main_of(("begin", 0), ("set", 1, 5), ("cell", 2, 0, (0,), (0, 1)), ("switch", 2, ((4, (2, 2)),)),
                        ("return", 2))
        self.check(value, [("new", 0), ("cell", 0, 3), ("touch", 0)], answer=5)

    def test_no_such_arm(self):
        for number in (3, 4, 63):
            self.check(main_of(*self.rows(("print", 0), ("set", 2, number))), (), fault=("stuck",), outs=(7,))
            rows = self.rows(("begin", 0), ("cell", 2, 0, (number,), (0,)))
            self.check(main_of(*rows), [("new", 0), ("cell", 0, 2), ("touch", 0)], fault=("stuck",), left=2)
        for word in (-1, -3, HUGE, -HUGE):
            rows = self.rows(("begin", 0), ("set", 3, word), ("cell", 2, 0, (), (3,)))
            self.check(main_of(*rows), [("new", 0), ("cell", 0, 1), ("touch", 0)], fault=("stuck",), left=1)
        self.check(main_of(("switch", 1, ()), ("return", 0)), (), fault=("stuck",))


if __name__ == "__main__":
    unittest.main()
