"""Point 22: the polynomials of the cells."""

import copy
import random
import time
import unittest
from itertools import product
from math import prod

from brimful.errors import BadStep, TooLong
from brimful.judge import polynomials
from brimful.programs import Program
from brimful.three import compile_source
from tests.samples import SOURCES, cost_of, inputs_of
from tests.test_judge import GREATEST_PRIME, TABLE, some_programs


def value_of(terms, prime, numbers):
    return sum(coefficient * prod(pow(number, exponent, prime) for number, exponent in zip(numbers, exponents))
               for exponents, coefficient in terms) % prime


class FormTest(unittest.TestCase):
    def check_form(self, program):
        found = polynomials(program)
        self.assertIs(type(found), list)
        self.assertEqual(len(found), program.cells)
        for terms in found:
            self.assertIs(type(terms), list)
            for term in terms:
                self.assertIs(type(term), tuple)
                exponents, coefficient = term
                self.assertIs(type(exponents), tuple)
                self.assertEqual(len(exponents), program.inputs + program.cells)
                self.assertTrue(all(type(k) is int and 0 <= k < program.modulus for k in exponents))
                self.assertTrue(type(coefficient) is int and 1 <= coefficient < program.modulus)
            all_exponents = [exponents for exponents, _ in terms]
            self.assertEqual(all_exponents, sorted(set(all_exponents)))
        return found

    def check_at(self, program, found, numbers):
        behind = program.run(list(numbers[program.inputs:]), list(numbers[:program.inputs]))
        self.assertEqual([value_of(terms, program.modulus, numbers) for terms in found], behind)

    def check_everywhere(self, program):
        # Only one polynomial of these degrees has these values.
        found = self.check_form(program)
        for numbers in product(range(program.modulus), repeat=program.inputs + program.cells):
            self.check_at(program, found, numbers)

    def check_somewhere(self, program, seed):
        chance = random.Random(seed)
        found = self.check_form(program)
        last = program.modulus - 1
        for _ in range(5):
            many = program.inputs + program.cells
            self.check_at(program, found, tuple(chance.choice((0, 1, last, chance.randrange(last))) for _ in range(many)))


class PolynomialsTest(FormTest):
    def test_single_steps(self):
        self.assertEqual(polynomials(Program(5, 2, 0, [])), [[((1, 0), 1)], [((0, 1), 1)]])
        self.assertEqual(polynomials(Program(5, 2, 0, [("swap", 0, 1)])), [[((0, 1), 1)], [((1, 0), 1)]])
        self.assertEqual(polynomials(Program(5, 1, 1, [("scale", 0, 3)])), [[((0, 1), 3)]])
        self.assertEqual(polynomials(Program(5, 1, 1, [("add", 0, 3, ())])), [[((0, 0), 3), ((0, 1), 1)]])
        self.assertEqual(polynomials(Program(5, 1, 1, [("add", 0, 0, (("input", 0),))])), [[((0, 1), 1)]])
        self.assertEqual(polynomials(Program(5, 1, 2, [("add", 0, 3, (("input", 1),) * 3)])),
                         [[((0, 0, 1), 1), ((0, 3, 0), 3)]])
        self.assertEqual(polynomials(Program(5, 2, 1, [("add", 1, 4, (("cell", 0), ("input", 0), ("cell", 0)))])),
                         [[((0, 1, 0), 1)], [((0, 0, 1), 1), ((1, 2, 0), 4)]])

    def test_powers_at_or_above_the_prime(self):
        square, cube = (("cell", 1),) * 2, (("cell", 1),) * 3
        self.assertEqual(polynomials(Program(2, 2, 0, [("add", 0, 1, square)])), [[((0, 1), 1), ((1, 0), 1)], [((0, 1), 1)]])
        self.assertEqual(polynomials(Program(2, 2, 0, [("add", 0, 1, cube)])), [[((0, 1), 1), ((1, 0), 1)], [((0, 1), 1)]])
        self.assertEqual(polynomials(Program(3, 2, 0, [("add", 0, 1, square)])), [[((0, 2), 1), ((1, 0), 1)], [((0, 1), 1)]])
        self.assertEqual(polynomials(Program(3, 2, 0, [("add", 0, 2, cube)])), [[((0, 1), 2), ((1, 0), 1)], [((0, 1), 1)]])
        self.assertEqual(polynomials(Program(5, 2, 0, [("add", 0, 2, cube)])), [[((0, 3), 2), ((1, 0), 1)], [((0, 1), 1)]])

    def test_terms_that_vanish(self):
        step = ("add", 0, 1, (("input", 0), ("cell", 1)))
        for prime in (2, 3, 7):
            self.assertEqual(polynomials(Program(prime, 2, 1, [step] * prime)), [[((0, 1, 0), 1)], [((0, 0, 1), 1)]])
        self.assertEqual(polynomials(Program(2, 1, 0, [("add", 0, 1, ())] * 2)), [[((1,), 1)]])

    def test_no_cell_becomes_the_polynomial_0(self):
        # A program gives back every content, so that no cell forgets everything.
        for program in some_programs():
            self.assertTrue(all(polynomials(program)))

    def test_everywhere(self):
        for program in some_programs():
            with self.subTest(modulus=program.modulus, cells=program.cells, steps=program.steps):
                self.check_everywhere(program)

    def test_longer_programs(self):
        for prime, cells, inputs, many in ((2, 4, 3, 60), (3, 3, 1, 40), (3, 4, 0, 30), (5, 3, 0, 20), (7, 2, 1, 12),
                                           (11, 2, 0, 15), (31, 2, 0, 9)):
            chance = random.Random(many)
            steps = []
            for _ in range(many):
                target = chance.randrange(cells)
                factors = [("cell", k) for k in range(cells) if k != target] + [("input", k) for k in range(inputs)]
                coefficient = chance.randrange(1, prime)
                steps.append(("add", target, coefficient, tuple(chance.choice(factors) for _ in range(3))))
            with self.subTest(prime=prime, cells=cells, inputs=inputs):
                self.check_everywhere(Program(prime, cells, inputs, steps))

    def test_greater_primes(self):
        cube = [("add", k % 2, 5, (("cell", 1 - k % 2),) * 3) for k in range(5)]
        for prime, cells, inputs, steps in (
                (631, 1, 1, []), (199999, 1, 0, [("add", 0, 77, ())]), (199999, 1, 0, [("scale", 0, 77)]), (443, 2, 0, cube[:1]),
                (313, 2, 0, cube[:3]), (257, 2, 0, cube[:5]), (53, 2, 1, [("add", 0, 9, (("input", 0), ("cell", 1)))]),
                (37, 3, 0, [("swap", 0, 2), ("add", 1, 36, (("cell", 0), ("cell", 2), ("cell", 2))), ("scale", 1, 2)])):
            with self.subTest(prime=prime, steps=steps):
                self.check_somewhere(Program(prime, cells, inputs, steps), prime)

    def test_known_polynomial_over_a_greater_prime(self):
        # (x + y ** 3) ** 3 is added to y.
        program = Program(281, 2, 0, [("add", 0, 1, (("cell", 1),) * 3), ("add", 1, 1, (("cell", 0),) * 3)])
        self.assertEqual(polynomials(program), [[((0, 3), 1), ((1, 0), 1)],
                                                [((0, 1), 1), ((0, 9), 1), ((1, 6), 3), ((2, 3), 3), ((3, 0), 1)]])

    def test_compiled_sources(self):
        for source in SOURCES:
            if inputs_of(source) <= 3 and cost_of(source) <= 60:
                program = compile_source(source, 3)
                _, one, other = self.check_form(program)
                self.assertEqual(one, [((0,) * (inputs_of(source) + 1) + (1, 0), 1)])
                self.assertEqual(other, [((0,) * (inputs_of(source) + 2) + (1,), 1)])
        program = compile_source((("input", 0), ("input", 1), ("product", 0, 1), ("scaled", 2, 2)), 5)
        self.assertEqual(polynomials(program)[0], [((0, 0, 1, 0, 0), 1), ((1, 1, 0, 0, 0), 2)])

    def test_program_stays_and_lists_are_new(self):
        program = Program(3, 2, 1, [("swap", 0, 1), ("add", 0, 2, (("input", 0), ("cell", 1)))])
        steps = copy.deepcopy(program.steps)
        found = polynomials(program)
        before = copy.deepcopy(found)
        for terms in found:
            terms.clear()
        found.clear()
        self.assertEqual(polynomials(program), before)
        self.assertEqual(program.steps, steps)


class ErrorsTest(unittest.TestCase):
    def test_bad_step(self):
        long = [("add", 0, 1, ())] * 20000
        for program in (Program(4, 1, 0, []), Program(10 ** 9, 1, 0, []), Program(2, 3, 0, [TABLE]), Program(9, 60, 60, long),
                        Program(2, 3, 0, [("swap", 0, 1), TABLE]), Program(999999938, 60, 60, []),
                        Program(GREATEST_PRIME, 60, 60, long[1:] + [TABLE])):
            with self.assertRaises(BadStep):
                polynomials(program)
        for program in (None, 0, [], ("add", 0, 1, ()), [("add", 0, 1, ())]):
            with self.assertRaises(BadStep):
                polynomials(program)

    def test_the_bound(self):
        add = ("add", 0, 1, ())
        for modulus, cells, inputs, many in ((2, 7, 0, 3124), (2, 1, 6, 3124), (5, 5, 0, 127), (5, 2, 3, 127)):
            zeros = (0,) * (cells + inputs)
            terms = polynomials(Program(modulus, cells, inputs, [add] * many))[0]
            self.assertEqual(terms[:-1], [(zeros, many % modulus)] if many % modulus else [])
            with self.assertRaises(TooLong):
                polynomials(Program(modulus, cells, inputs, [add] * (many + 1)))
        # 57143 times 7 is 400001.
        polynomials(Program(57143, 1, 0, [add] * 5))
        with self.assertRaises(TooLong):
            polynomials(Program(57143, 1, 0, [add] * 6))
        for modulus, cells, inputs in ((641, 2, 0), (641, 1, 1), (400009, 1, 0), (2, 19, 0), (2, 1, 18), (3, 12, 0)):
            with self.assertRaises(TooLong):
                polynomials(Program(modulus, cells, inputs, []))
        for modulus, cells, inputs in ((631, 2, 0), (2, 18, 0), (2, 1, 17), (3, 11, 0), (399989, 1, 0)):
            found = polynomials(Program(modulus, cells, inputs, []))
            self.assertEqual([len(terms) for terms in found], [1] * cells)

    def test_great_programs_are_answered_at_once(self):
        start = time.process_time()
        for modulus, cells, inputs in ((GREATEST_PRIME, 60, 60), (GREATEST_PRIME, 1, 0), (2, 60, 60)):
            with self.assertRaises(TooLong):
                polynomials(Program(modulus, cells, inputs, [("add", 0, 1, ())] * 20000))
        self.assertLess(time.process_time() - start, 3)


if __name__ == "__main__":
    unittest.main()
