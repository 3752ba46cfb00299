"""Points 1, 4 and 5: running, joining, stopping and calling back programs."""

import copy
import itertools
import random
import unittest

from brimful.errors import BadMemory, BadStep
from brimful.programs import Program

GREATEST_PRIME = 999999937
XOR = ((0, 1), (1, 0))


def run_steps(modulus, cells, inputs, steps, memory, given):
    return Program(modulus, cells, inputs, steps).run(memory, given)


class RunTest(unittest.TestCase):
    def test_add(self):
        memory, given = [1, 2, 3], [4, 5]
        for coefficient, factors, first in (
                (3, (), 4), (0, (), 1), (9, (), 0), (3, (("cell", 1),), 7), (3, (("input", 1),), 6),
                (1, (("cell", 1), ("cell", 2)), 7), (2, (("cell", 2), ("input", 0)), 5),
                (1, (("cell", 1), ("cell", 2), ("input", 0)), 5), (0, (("cell", 1), ("input", 0)), 1)):
            with self.subTest(coefficient=coefficient, factors=factors):
                step = ("add", 0, coefficient, factors)
                self.assertEqual(run_steps(10, 3, 2, [step], memory, given), [first, 2, 3])

    def test_a_factor_that_stands_more_than_once(self):
        memory, given = [1, 2, 3], [4]
        for factors, first in (((("cell", 2),) * 2, 10), ((("cell", 2),) * 3, 28), ((("input", 0),) * 3, 65),
                               ((("cell", 1), ("cell", 2), ("cell", 1)), 13)):
            self.assertEqual(run_steps(100, 3, 1, [("add", 0, 1, factors)], memory, given), [first, 2, 3])

    def test_add_to_another_cell(self):
        self.assertEqual(run_steps(10, 3, 0, [("add", 2, 2, (("cell", 0),))], [4, 5, 6], []), [4, 5, 4])

    def test_scale(self):
        self.assertEqual(run_steps(10, 3, 0, [("scale", 1, 7)], [1, 4, 9], []), [1, 8, 9])
        self.assertEqual(run_steps(10, 1, 0, [("scale", 0, 1)], [7], []), [7])

    def test_swap(self):
        self.assertEqual(run_steps(10, 3, 0, [("swap", 0, 2)], [1, 4, 9], []), [9, 4, 1])
        self.assertEqual(run_steps(10, 3, 0, [("swap", 2, 1)], [1, 4, 9], []), [1, 9, 4])

    def test_table(self):
        plus, times = ((0, 1), (1, 2)), ((0, 0), (0, 1))
        self.assertEqual(run_steps(11, 3, 0, [("table", 0, 1, plus, 1, 2)], [1, 7, 6], []), [3, 7, 6])
        self.assertEqual(run_steps(11, 3, 0, [("table", 0, 10, plus, 1, 2)], [1, 7, 6], []), [10, 7, 6])
        self.assertEqual(run_steps(11, 3, 0, [("table", 2, 1, times, 0, 1)], [5, 7, 6], []), [5, 7, 8])

    def test_table_asks_the_first_cell_for_the_row(self):
        rows = ((0, 0), (1, 1))
        self.assertEqual(run_steps(11, 3, 0, [("table", 0, 1, rows, 1, 2)], [0, 7, 6], []), [7, 7, 6])
        self.assertEqual(run_steps(11, 3, 0, [("table", 0, 1, rows, 2, 1)], [0, 7, 6], []), [6, 7, 6])

    def test_several_steps_in_order(self):
        steps = [("add", 0, 1, (("cell", 1),)), ("scale", 1, 3), ("swap", 0, 2), ("add", 1, 2, (("cell", 0),)),
                 ("table", 2, 6, ((0, 1), (1, 2)), 0, 1)]
        # 1 2 3, 3 2 3, 3 6 3, 3 6 3, 3 5 3, 3 5 2 (3 - 8, modulo 7)
        self.assertEqual(run_steps(7, 3, 0, steps, [1, 2, 3], []), [3, 5, 2])
        self.assertEqual(run_steps(7, 3, 0, steps[:2] + steps[3:4], [1, 2, 3], []), [3, 5, 3])

    def test_the_order_matters(self):
        add, scale = ("add", 0, 1, ()), ("scale", 0, 3)
        self.assertEqual(run_steps(10, 1, 0, [add, scale], [1], []), [6])
        self.assertEqual(run_steps(10, 1, 0, [scale, add], [1], []), [4])

    def test_modulus_two(self):
        for a, b, c, k in itertools.product((0, 1), repeat=4):
            add = ("add", 0, 1, (("cell", 1), ("cell", 2), ("input", 0)))
            self.assertEqual(run_steps(2, 3, 1, [add], [a, b, c], [k]), [a ^ (b & c & k), b, c])
            self.assertEqual(run_steps(2, 3, 1, [("table", 0, 1, XOR, 1, 2)], [a, b, c], [k]), [a ^ b ^ c, b, c])
            self.assertEqual(run_steps(2, 3, 1, [("scale", 0, 1)], [a, b, c], [k]), [a, b, c])
            self.assertEqual(run_steps(2, 3, 1, [("add", 0, 0, ())], [a, b, c], [k]), [a, b, c])

    def test_great_numbers(self):
        last = 10 ** 9 - 1
        step = ("add", 0, last, (("cell", 1), ("cell", 2), ("input", 0)))
        self.assertEqual(run_steps(10 ** 9, 3, 1, [step], [last, last, last], [last]), [0, last, last])
        self.assertEqual(run_steps(10 ** 9, 1, 0, [("scale", 0, last)], [last], []), [1])
        prime = GREATEST_PRIME
        step = ("table", 0, prime - 1, ((0, 0), (0, 1)), 1, 2)
        # (-1) * (-2) is taken from 0.
        self.assertEqual(run_steps(prime, 3, 0, [step], [0, prime - 1, prime - 2], []),
                         [prime - 2, prime - 1, prime - 2])

    def test_no_steps(self):
        memory = [3, 1]
        behind = run_steps(5, 2, 0, [], memory, [])
        self.assertEqual(behind, [3, 1])
        self.assertIsNot(behind, memory)

    def test_nothing_that_is_passed_changes(self):
        steps = [("add", 0, 1, (("input", 0),)), ("swap", 0, 1), ("scale", 2, 3), ("table", 0, 1, XOR, 1, 2)]
        program = Program(5, 3, 1, steps)
        memory, given = [1, 2, 3], [4]
        behind = program.run(memory, given)
        self.assertEqual((memory, given), ([1, 2, 3], [4]))
        self.assertIsNot(behind, memory)
        self.assertIs(type(behind), list)
        self.assertEqual(program.steps, steps)
        self.assertEqual((program.modulus, program.cells, program.inputs), (5, 3, 1))
        self.assertEqual(program.run(memory, given), behind)

    def test_greatest_program(self):
        program = Program(10 ** 9, 60, 60, [("add", 59, 1, (("input", 59),))] * 20000)
        self.assertEqual(program.run([7] * 60, [5] * 60), [7] * 59 + [100007])


class BadMemoryTest(unittest.TestCase):
    program = Program(5, 2, 1, [("add", 0, 1, (("input", 0),))])

    def reject(self, memory, given):
        with self.subTest(memory=memory, given=given), self.assertRaises(BadMemory):
            self.program.run(memory, given)

    def test_the_first_and_the_last_number(self):
        self.assertEqual(self.program.run([0, 4], [0]), [0, 4])
        self.assertEqual(self.program.run([4, 0], [4]), [3, 0])

    def test_wrong_numbers(self):
        for wrong in (-1, 5, 10 ** 30, True, False, None, "1", 1.0, [1], (1,)):
            self.reject([wrong, 0], [0])
            self.reject([0, wrong], [0])
            self.reject([0, 0], [wrong])

    def test_wrong_sizes(self):
        for memory in ([], [0], [0, 0, 0]):
            self.reject(memory, [0])
        for given in ([], [0, 0]):
            self.reject([0, 0], given)

    def test_no_lists(self):
        for memory in ((0, 0), None, 0, True, "00", {0: 0, 1: 0}, b"00", range(2)):
            self.reject(memory, [0])
        for given in ((0,), None, 0, True, "0", {0: 0}, b"0", range(1)):
            self.reject([0, 0], given)

    def test_no_inputs(self):
        program = Program(5, 1, 0, [])
        self.assertEqual(program.run([2], []), [2])
        for given in ([0], (), None, ""):
            with self.assertRaises(BadMemory):
                program.run([2], given)

    def test_numbers_are_asked_for_even_without_steps(self):
        with self.assertRaises(BadMemory):
            Program(5, 1, 0, []).run([5], [])


class JoinTest(unittest.TestCase):
    first = [("add", 0, 1, ()), ("swap", 0, 1)]
    second = [("scale", 1, 2), ("add", 1, 3, (("input", 0),))]

    def test_the_steps_of_both_in_order(self):
        one, other = Program(5, 2, 1, self.first), Program(5, 2, 1, self.second)
        both = one + other
        self.assertIsInstance(both, Program)
        self.assertEqual(both.steps, self.first + self.second)
        self.assertEqual((both.modulus, both.cells, both.inputs), (5, 2, 1))
        self.assertEqual((other + one).steps, self.second + self.first)
        self.assertEqual(both.run([3, 4], [1]), other.run(one.run([3, 4], [1]), [1]))

    def test_both_programs_stay(self):
        one, other = Program(5, 2, 1, self.first), Program(5, 2, 1, self.second)
        both = one + other
        both.steps.append(None)
        self.assertEqual((one.steps, other.steps), (self.first, self.second))

    def test_with_itself_and_with_nothing(self):
        one, nothing = Program(5, 2, 1, self.first), Program(5, 2, 1, [])
        self.assertEqual((one + one).steps, self.first * 2)
        self.assertEqual((one + nothing).steps, self.first)
        self.assertEqual((nothing + one).steps, self.first)
        self.assertIsNot((one + nothing).steps, one.steps)
        self.assertEqual(one.steps, self.first)

    def test_programs_that_differ(self):
        one = Program(5, 2, 1, self.first)
        for modulus, cells, inputs in ((7, 2, 1), (5, 3, 1), (5, 2, 2), (5, 2, 0)):
            other = Program(modulus, cells, inputs, self.first)
            for left, right in ((one, other), (other, one)):
                with self.subTest(modulus=modulus, cells=cells, inputs=inputs), self.assertRaises(BadStep):
                    left + right

    def test_too_many_steps(self):
        step = ("add", 0, 1, ())
        most, one = Program(5, 1, 0, [step] * 19999), Program(5, 1, 0, [step])
        self.assertEqual(len(most + one), 20000)
        for left, right in ((most + one, one), (one, most + one), (most, most)):
            with self.assertRaises(BadStep):
                left + right

    def test_what_is_no_program(self):
        for other in (None, [], 0, "add"):
            with self.assertRaises(BadStep):
                Program(5, 2, 1, self.first) + other


class PartTest(unittest.TestCase):
    steps = [("add", 0, 1, ()), ("swap", 0, 1), ("scale", 1, 2)]
    inverses = [("add", 0, 4, ()), ("swap", 0, 1), ("scale", 1, 3)]

    def test_part(self):
        program = Program(5, 2, 1, self.steps)
        for n in range(4):
            part = program.part(n)
            self.assertIsInstance(part, Program)
            self.assertEqual(part.steps, self.steps[:n])
            self.assertEqual((part.modulus, part.cells, part.inputs), (5, 2, 1))

    def test_called_back(self):
        program = Program(5, 2, 1, self.steps)
        for n in range(4):
            back = program.called_back(n)
            self.assertIsInstance(back, Program)
            self.assertEqual(back.steps, self.inverses[:n][::-1])
            self.assertEqual((back.modulus, back.cells, back.inputs), (5, 2, 1))

    def test_the_program_stays(self):
        program = Program(5, 2, 1, self.steps)
        program.part(3).steps.append(None)
        program.part(0).steps.append(None)
        program.called_back(3).steps.append(None)
        self.assertEqual(program.steps, self.steps)

    def test_wrong_numbers_of_steps(self):
        program = Program(5, 2, 1, self.steps)
        for n in (-1, 4, 20000, 10 ** 30, True, False, None, "1", "", 1.0, [1], (1,)):
            with self.subTest(n):
                with self.assertRaises(BadStep):
                    program.part(n)
                with self.assertRaises(BadStep):
                    program.called_back(n)

    def test_no_steps(self):
        program = Program(5, 2, 1, [])
        self.assertEqual(program.part(0).steps, [])
        self.assertEqual(program.called_back(0).steps, [])
        for n in (1, -1):
            with self.assertRaises(BadStep):
                program.part(n)
            with self.assertRaises(BadStep):
                program.called_back(n)


class InverseTest(unittest.TestCase):
    def check(self, modulus, steps, inverses, cells=3, inputs=1):
        program = Program(modulus, cells, inputs, steps)
        back = -program
        self.assertIsInstance(back, Program)
        self.assertEqual(back.steps, inverses)
        self.assertEqual((back.modulus, back.cells, back.inputs), (modulus, cells, inputs))
        self.assertEqual((-back).steps, steps)
        self.assertEqual(program.steps, steps)

    def test_add(self):
        factors = (("cell", 1), ("input", 0))
        self.check(10, [("add", 0, 3, factors)], [("add", 0, 7, factors)])
        self.check(10, [("add", 2, 5, ())], [("add", 2, 5, ())])
        self.check(10, [("add", 2, 1, ())], [("add", 2, 9, ())])
        self.check(10 ** 9, [("add", 2, 1, ())], [("add", 2, 10 ** 9 - 1, ())])

    def test_the_coefficient_zero_stays(self):
        for modulus in (2, 10, 10 ** 9):
            self.check(modulus, [("add", 0, 0, (("cell", 1),))], [("add", 0, 0, (("cell", 1),))])

    def test_scale(self):
        self.check(10, [("scale", 1, 3)], [("scale", 1, 7)])
        self.check(10, [("scale", 2, 9)], [("scale", 2, 9)])
        self.check(10 ** 9, [("scale", 0, 3)], [("scale", 0, 666666667)])

    def test_swap(self):
        self.check(10, [("swap", 2, 0)], [("swap", 2, 0)])

    def test_table(self):
        self.check(7, [("table", 0, 1, XOR, 1, 2)], [("table", 0, 6, XOR, 1, 2)])

    def test_modulus_two(self):
        steps = [("add", 0, 1, ()), ("scale", 1, 1), ("table", 0, 1, XOR, 1, 2), ("swap", 0, 1)]
        self.check(2, steps, steps[::-1])

    def test_reverse_order(self):
        self.check(5, [("add", 0, 1, ()), ("scale", 0, 2), ("swap", 0, 1), ("table", 1, 4, XOR, 0, 2)],
                   [("table", 1, 1, XOR, 0, 2), ("swap", 0, 1), ("scale", 0, 3), ("add", 0, 4, ())])

    def test_no_steps(self):
        self.check(5, [], [])

    def test_the_inverse_has_steps_of_its_own(self):
        program = Program(5, 3, 0, [("swap", 0, 1)])
        (-program).steps.append(None)
        self.assertEqual(program.steps, [("swap", 0, 1)])


def some_step(chance, modulus, prime):
    target, a, b = chance.sample(range(4), 3)
    kind = chance.choice(("add", "add", "scale", "swap") + (("table",) if prime else ()))
    if kind == "add":
        factors = [chance.choice((("cell", a), ("cell", b), ("input", 0), ("input", 1)))
                   for _ in range(chance.randrange(4))]
        return ("add", target, chance.randrange(modulus), tuple(factors))
    if kind == "scale":
        return ("scale", target, chance.choice((1, modulus - 1)))
    if kind == "swap":
        return ("swap", a, b)
    size = chance.randint(1, min(4, modulus))
    table = tuple(tuple(chance.randrange(modulus) for _ in range(size)) for _ in range(size))
    return ("table", target, chance.choice((1, modulus - 1)), table, a, b)


class GivingBackTest(unittest.TestCase):
    moduli = ((2, True), (3, True), (4, False), (7, True), (10, False), (GREATEST_PRIME, True), (10 ** 9, False))

    def programs(self):
        for modulus, prime in self.moduli:
            chance = random.Random(modulus)
            for many in (1, 2, 7, 25):
                steps = [some_step(chance, modulus, prime) for _ in range(many)]
                memory = [chance.randrange(modulus) for _ in range(4)]
                given = [chance.randrange(modulus) for _ in range(2)]
                yield Program(modulus, 4, 2, steps), memory, given

    def test_a_program_and_its_inverse_in_both_orders(self):
        for program, memory, given in self.programs():
            with self.subTest(steps=program.steps, memory=memory, given=given):
                self.assertEqual((-program).run(program.run(memory, given), given), memory)
                self.assertEqual(program.run((-program).run(memory, given), given), memory)
                self.assertEqual((program + -program).run(memory, given), memory)
                self.assertEqual((-program + program).run(memory, given), memory)

    def test_stopping_anywhere_and_calling_back(self):
        for program, memory, given in self.programs():
            for n in range(len(program) + 1):
                middle = program.part(n).run(memory, given)
                self.assertEqual(program.called_back(n).run(middle, given), memory)

    def test_all_memories_of_a_small_modulus(self):
        steps = [("add", 0, 2, (("cell", 1), ("cell", 2))), ("table", 1, 2, ((0, 1), (2, 2)), 0, 2), ("swap", 1, 2),
                 ("scale", 0, 2), ("add", 2, 1, (("input", 0), ("cell", 0), ("cell", 0)))]
        program = Program(3, 3, 1, steps)
        for a, b, c, k in itertools.product(range(3), repeat=4):
            for n in range(len(program) + 1):
                middle = program.part(n).run([a, b, c], [k])
                self.assertEqual(program.called_back(n).run(middle, [k]), [a, b, c])

    def test_the_steps_stay(self):
        for program, memory, given in self.programs():
            before = copy.deepcopy(program.steps)
            program.run(memory, given)
            -program
            program + program
            program.part(1)
            program.called_back(1)
            self.assertEqual(program.steps, before)


if __name__ == "__main__":
    unittest.main()
