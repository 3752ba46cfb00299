"""Points 2 to 4: what a program is, and that everything else raises BadStep."""

import copy
import unittest

from brimful.errors import BadStep
from brimful.programs import Program
from tests.wrong import NEVER_RIGHT, part_at, places, replaced

GREATEST_PRIME = 999999937
ADD = ("add", 0, 3, (("cell", 1), ("input", 0), ("cell", 1)))
SCALE = ("scale", 1, 2)
SWAP = ("swap", 0, 2)
TABLE = ("table", 2, 4, ((0, 1), (2, 3)), 0, 1)
RIGHT = [5, 3, 1, [ADD, SCALE, SWAP, TABLE]]


class RejectingTest(unittest.TestCase):
    def reject(self, modulus, cells, inputs, steps):
        with self.subTest(modulus=modulus, cells=cells, inputs=inputs, steps=repr(steps)[:90]):
            with self.assertRaises(BadStep):
                Program(modulus, cells, inputs, steps)

    def reject_steps(self, *steps, modulus=5, cells=3, inputs=1):
        for step in steps:
            self.reject(modulus, cells, inputs, [step])

    def accept_steps(self, *steps, modulus=5, cells=3, inputs=1):
        for step in steps:
            with self.subTest(step):
                self.assertEqual(Program(modulus, cells, inputs, [step]).steps, [step])


class FieldsTest(unittest.TestCase):
    def test_fields_and_length(self):
        program = Program(*RIGHT)
        self.assertEqual((program.modulus, program.cells, program.inputs), (5, 3, 1))
        self.assertEqual(program.steps, [ADD, SCALE, SWAP, TABLE])
        self.assertIs(type(program.steps), list)
        self.assertEqual(len(program), 4)

    def test_no_steps(self):
        program = Program(2, 1, 0, [])
        self.assertEqual(program.steps, [])
        self.assertEqual(len(program), 0)

    def test_steps_are_a_list_of_its_own(self):
        steps = [ADD, SCALE]
        program = Program(5, 3, 1, steps)
        self.assertIsNot(program.steps, steps)
        steps.append(SWAP)
        steps[0] = None
        self.assertEqual(program.steps, [ADD, SCALE])
        self.assertEqual(len(program), 2)

    def test_the_passed_list_stays(self):
        arguments = copy.deepcopy(RIGHT)
        Program(*arguments)
        self.assertEqual(arguments, RIGHT)

    def test_methods_stand_in_the_class_itself(self):
        for name in ("__init__", "__len__", "__add__", "__neg__", "run", "part", "called_back"):
            self.assertIn(name, vars(Program))
        self.assertEqual(Program.__module__, "brimful.programs")


class BoundsTest(RejectingTest):
    def test_modulus(self):
        for modulus in (2, 3, 4, 10 ** 9 - 1, 10 ** 9):
            self.assertEqual(Program(modulus, 1, 0, []).modulus, modulus)
        for modulus in (1, 0, -1, -5, 10 ** 9 + 1, 10 ** 30):
            self.reject(modulus, 1, 0, [])

    def test_cells(self):
        for cells in (1, 2, 60):
            self.assertEqual(Program(2, cells, 0, []).cells, cells)
        for cells in (0, -1, 61, 1000):
            self.reject(2, cells, 0, [])

    def test_inputs(self):
        for inputs in (0, 1, 60):
            self.assertEqual(Program(2, 1, inputs, []).inputs, inputs)
        for inputs in (-1, 61, 1000):
            self.reject(2, 1, inputs, [])

    def test_number_of_steps(self):
        step = ("add", 0, 1, ())
        self.assertEqual(len(Program(2, 1, 0, [step] * 20000)), 20000)
        self.reject(2, 1, 0, [step] * 20001)

    def test_every_step_counts(self):
        for at in (0, 1, 2):
            steps = [("swap", 0, 1)] * 3
            steps[at] = ("swap", 0, 0)
            self.reject(2, 2, 0, steps)


class AddTest(RejectingTest):
    def test_target(self):
        self.accept_steps(("add", 0, 1, ()), ("add", 2, 1, ()))
        self.reject_steps(("add", -1, 1, ()), ("add", 3, 1, ()))
        self.accept_steps(("add", 59, 1, ()), cells=60)
        self.reject_steps(("add", 60, 1, ()), cells=60)

    def test_coefficient(self):
        self.accept_steps(("add", 0, 0, ()), ("add", 0, 4, ()))
        self.reject_steps(("add", 0, -1, ()), ("add", 0, 5, ()))
        self.accept_steps(("add", 0, 10 ** 9 - 1, ()), modulus=10 ** 9)
        self.reject_steps(("add", 0, 10 ** 9, ()), modulus=10 ** 9)

    def test_number_of_factors(self):
        for many in range(4):
            self.accept_steps(("add", 0, 1, (("input", 0),) * many), ("add", 0, 1, (("cell", 1),) * many))
        self.reject_steps(("add", 0, 1, (("input", 0),) * 4), ("add", 0, 1, (("cell", 1),) * 4))

    def test_cell_factor(self):
        self.accept_steps(("add", 1, 1, (("cell", 0),)), ("add", 1, 1, (("cell", 2),)))
        self.reject_steps(("add", 1, 1, (("cell", -1),)), ("add", 1, 1, (("cell", 3),)))

    def test_a_factor_is_not_the_target(self):
        for factors in ((("cell", 1),), (("cell", 0), ("cell", 1)), (("input", 0), ("cell", 2), ("cell", 1))):
            self.reject_steps(("add", 1, 1, factors))
        self.reject_steps(("add", 0, 0, (("cell", 0),)))

    def test_input_factor(self):
        self.accept_steps(("add", 0, 1, (("input", 0),)), ("add", 1, 1, (("input", 0),)))
        self.reject_steps(("add", 0, 1, (("input", -1),)), ("add", 0, 1, (("input", 1),)))
        self.reject_steps(("add", 0, 1, (("input", 0),)), inputs=0)
        self.accept_steps(("add", 0, 1, (("input", 59),)), inputs=60)
        self.reject_steps(("add", 0, 1, (("input", 60),)), inputs=60)

    def test_an_input_may_have_the_number_of_the_target(self):
        self.accept_steps(("add", 1, 1, (("input", 1), ("cell", 0))), inputs=2)

    def test_other_words(self):
        for word in ("Cell", "inputs", "cell ", "memory", "", b"cell", None, 0):
            self.reject_steps(("add", 0, 1, ((word, 1),)), inputs=2)

    def test_parts_of_a_factor(self):
        for factor in ((), ("cell",), ("input",), ("cell", 1, 1), ("input", 0, 0), (1,), "cell", ["cell", 1]):
            self.reject_steps(("add", 0, 1, (factor,)))

    def test_factors_are_a_tuple(self):
        for factors in ([], [("input", 0)], ("input", 0), "", None, 0, {}):
            self.reject_steps(("add", 0, 1, factors))


class ScaleTest(RejectingTest):
    def test_target(self):
        self.accept_steps(("scale", 0, 2), ("scale", 2, 2))
        self.reject_steps(("scale", -1, 2), ("scale", 3, 2))

    def test_units(self):
        for modulus in (2, 3, 4, 5, 6, 12, 30, 49):
            units = [u for u in range(modulus) if any(u * v % modulus == 1 for v in range(modulus))]
            for unit in range(-1, modulus + 3):
                step = ("scale", 0, unit)
                if unit in units:
                    self.accept_steps(step, modulus=modulus)
                else:
                    self.reject_steps(step, modulus=modulus)

    def test_great_modulus(self):
        self.accept_steps(("scale", 0, 10 ** 9 - 1), ("scale", 0, 3), modulus=10 ** 9)
        self.reject_steps(("scale", 0, 10 ** 9 + 1), ("scale", 0, 2), ("scale", 0, 0), ("scale", 0, 5 ** 9),
                          modulus=10 ** 9)


class SwapTest(RejectingTest):
    def test_cells(self):
        self.accept_steps(("swap", 0, 1), ("swap", 1, 0), ("swap", 2, 0), ("swap", 1, 2))
        self.reject_steps(("swap", 0, 3), ("swap", 3, 0), ("swap", -1, 0), ("swap", 0, -1))

    def test_cells_are_different(self):
        self.reject_steps(("swap", 0, 0), ("swap", 2, 2))
        self.reject_steps(("swap", 0, 0), cells=1)


class TableTest(RejectingTest):
    one = ((1,),)

    def test_prime_modulus(self):
        for modulus in (2, 3, 5, 97, GREATEST_PRIME):
            self.accept_steps(("table", 0, 1, self.one, 1, 2), modulus=modulus)
        for modulus in (4, 6, 9, 91, 10 ** 9, 999999938):
            self.reject_steps(("table", 0, 1, self.one, 1, 2), modulus=modulus)

    def test_modulus_is_asked_for_a_table_step_anywhere(self):
        self.reject(4, 3, 0, [("swap", 0, 1), ("table", 0, 1, self.one, 1, 2)])
        self.reject(4, 3, 0, [("table", 0, 1, self.one, 1, 2), ("swap", 0, 1)])

    def test_sign(self):
        self.accept_steps(("table", 0, 1, self.one, 1, 2), ("table", 0, 4, self.one, 1, 2))
        self.reject_steps(*[("table", 0, sign, self.one, 1, 2) for sign in (-1, 0, 2, 3, 5, 6, True)])
        self.accept_steps(("table", 0, 1, self.one, 1, 2), modulus=2)
        self.reject_steps(*[("table", 0, sign, self.one, 1, 2) for sign in (-1, 0, 2, True, False)], modulus=2)

    def test_cells(self):
        self.accept_steps(("table", 2, 1, self.one, 0, 1), ("table", 1, 1, self.one, 2, 0))
        for cells in ((3, 0, 1), (0, 3, 1), (0, 1, 3), (-1, 0, 1), (0, -1, 1), (0, 1, -1)):
            self.reject_steps(("table", cells[0], 1, self.one, cells[1], cells[2]))

    def test_cells_are_three_different_ones(self):
        for cells in ((0, 0, 1), (0, 1, 0), (1, 0, 0), (0, 0, 0)):
            self.reject_steps(("table", cells[0], 1, self.one, cells[1], cells[2]))

    def test_size(self):
        for modulus in (2, 3, 5):
            for size in (1, 2, modulus - 1, modulus):
                self.accept_steps(("table", 0, 1, ((1,) * size,) * size, 1, 2), modulus=modulus)
            for size in (0, modulus + 1):
                self.reject_steps(("table", 0, 1, ((1,) * size,) * size, 1, 2), modulus=modulus)

    def test_rows(self):
        for table in (((),), ((0, 1),), ((0,), (1,)), ((0, 1), (1,)), ((0, 1), (1, 0, 1)), ((0,), (0, 1)), (0,)):
            self.reject_steps(("table", 0, 1, table, 1, 2))

    def test_values(self):
        self.accept_steps(("table", 0, 1, ((0, 4), (4, 0)), 1, 2))
        for value in (-1, 5, 6, True, None, "1", (1,)):
            for at in ((0, 0), (0, 1), (1, 0), (1, 1)):
                self.reject_steps(("table", 0, 1, replaced(((0, 1), (2, 3)), at, value), 1, 2))


class WrongKindsTest(RejectingTest):
    def test_the_right_program_is_right(self):
        Program(*RIGHT)

    def test_a_wrong_value_at_every_place(self):
        for path in places(RIGHT):
            for wrong in NEVER_RIGHT:
                if wrong != part_at(RIGHT, path) or isinstance(wrong, (bool, float)):
                    self.reject(*replaced(RIGHT, path, wrong))

    def test_an_empty_list_or_tuple_at_every_place(self):
        for path in places(RIGHT):
            if path != (3,):
                self.reject(*replaced(RIGHT, path, []))
            if path != (3, 0, 3):
                self.reject(*replaced(RIGHT, path, ()))

    def test_a_list_for_a_tuple_and_a_tuple_for_a_list(self):
        for path in places(RIGHT):
            part = part_at(RIGHT, path)
            if isinstance(part, tuple):
                self.reject(*replaced(RIGHT, path, list(part)))
            if isinstance(part, list):
                self.reject(*replaced(RIGHT, path, tuple(part)))

    def test_a_part_too_many_or_too_few(self):
        for path in places(RIGHT):
            part = part_at(RIGHT, path)
            if isinstance(part, tuple):
                for more in (0, None, "cell"):
                    self.reject(*replaced(RIGHT, path, part + (more,)))
                    self.reject(*replaced(RIGHT, path, (more,) + part))
                if path != (3, 0, 3):
                    self.reject(*replaced(RIGHT, path, part[:-1]))
                    self.reject(*replaced(RIGHT, path, part[1:]))

    def test_other_kinds_of_steps(self):
        for word in ("Add", "ADD", "adds", "sub", "", "multiply", None, 0, b"add", ("add",)):
            self.reject_steps((word, 0, 1, ()), (word, 0, 1), (word,), (word, 0, 1, ((0,),), 1, 2))
        self.reject_steps((), "add", "swap", 0, None, True, [], {}, ["swap", 0, 1], ("swap",), ("swap", 0))

    def test_the_steps_of_another_kind(self):
        for steps in ((), (SWAP,), None, True, 0, "", "add", {}, {SWAP: 1}, SWAP, iter([SWAP]), range(0)):
            self.reject(5, 3, 1, steps)


if __name__ == "__main__":
    unittest.main()
