"""Points 10, 11 and 26: sources compiled to programs in three cells, and answers taken out of a full memory."""

import copy
import random
import time
import unittest
from itertools import product

from brimful.errors import BadMemory, BadSource, BadStep, TooLong
from brimful.programs import Program
from brimful.three import answer, compile_source
from tests.samples import (GREATEST, all_sources, cost_of, inputs_of, some_source, source_of_cost, squares, value_of)

MODULI = (2, 3, 10, 999999937, 10 ** 9)


def memories(chance, modulus):
    """Memories full of 0, of the last number, and of others."""
    last = modulus - 1
    yield [0, 0, 0]
    yield [last, last, last]
    yield [last, 0, 1]
    for _ in range(3):
        yield [chance.randrange(modulus) for _ in range(3)]


class CompileTest(unittest.TestCase):
    def check_form(self, program, source, modulus):
        self.assertIsInstance(program, Program)
        self.assertEqual((program.modulus, program.cells, program.inputs), (modulus, 3, inputs_of(source)))
        self.assertEqual(len(program), cost_of(source))
        self.assertEqual({step[0] for step in program.steps}, {"add"})
        # Only what is a program can be made of these steps.
        self.assertEqual(Program(modulus, 3, inputs_of(source), program.steps).steps, program.steps)

    def check_run(self, program, source, modulus, memory, given):
        behind = program.run(memory, given)
        value = value_of(source, modulus, given)
        self.assertEqual(behind, [(memory[0] + value) % modulus, memory[1], memory[2]])

    def test_form(self):
        for source in all_sources():
            for modulus in MODULI:
                with self.subTest(source=source, modulus=modulus):
                    self.check_form(compile_source(source, modulus), source, modulus)

    def test_full_memories(self):
        for at, source in enumerate(all_sources()):
            chance = random.Random(at)
            for modulus in MODULI:
                program = compile_source(source, modulus)
                for memory in memories(chance, modulus):
                    given = [chance.randrange(modulus) for _ in range(inputs_of(source))]
                    with self.subTest(source=source, modulus=modulus, memory=memory, given=given):
                        self.check_run(program, source, modulus, memory, given)

    def test_all_memories_and_inputs_of_small_moduli(self):
        for source in all_sources():
            if inputs_of(source) <= 3 and cost_of(source) <= 60:
                for modulus in (2, 3):
                    program = compile_source(source, modulus)
                    for numbers in product(range(modulus), repeat=3 + inputs_of(source)):
                        self.check_run(program, source, modulus, list(numbers[:3]), list(numbers[3:]))

    def test_stopped_behind_each_step_and_called_back(self):
        for at, source in enumerate(all_sources()):
            if cost_of(source) <= 60:
                chance = random.Random(at)
                for modulus in (2, 10, 10 ** 9):
                    program = compile_source(source, modulus)
                    memory = [chance.randrange(modulus) for _ in range(3)]
                    given = [chance.randrange(modulus) for _ in range(inputs_of(source))]
                    for n in range(len(program) + 1):
                        middle = program.part(n).run(memory, given)
                        self.assertEqual(program.called_back(n).run(middle, given), memory)

    def test_known_values(self):
        source = (("input", 0), ("input", 1), ("product", 0, 1))
        program = compile_source(source, 10)
        self.assertEqual(program.run([1, 2, 3], [4, 7]), [9, 2, 3])
        source = (("input", 0), ("input", 1), ("input", 2), ("choose", 0, 1, 2))
        program = compile_source(source, 10)
        self.assertEqual(program.run([1, 2, 3], [1, 4, 7]), [5, 2, 3])
        self.assertEqual(program.run([1, 2, 3], [0, 4, 7]), [8, 2, 3])
        self.assertEqual(program.run([1, 2, 3], [3, 4, 7]), [9, 2, 3])

    def test_long_rows_of_nodes(self):
        row = (("input", 0),) + tuple(("scaled", 3, at) for at in range(199))
        program = compile_source(row, 10 ** 9)
        self.assertEqual(len(program), 1)
        self.assertEqual(program.run([5, 6, 7], [2]), [(5 + 2 * 3 ** 199) % 10 ** 9, 6, 7])
        row = (("input", 0),) + tuple(("sum", 0, at) for at in range(199))
        self.assertEqual(compile_source(row, 1000).run([5, 6, 7], [3]), [605, 6, 7])

    def test_long_rows_below_many_steps_take_no_long_time(self):
        # 2 ** 14 steps, each with a row of 184 scaled nodes below it.
        row = [("input", 0)] + [("scaled", GREATEST, at) for at in range(184)]
        source = tuple(row + [("sum", at, at) for at in range(184, 198)])
        start = time.process_time()
        program = compile_source(source, 10 ** 9)
        self.assertLess(time.process_time() - start, 5)
        self.assertEqual(program.run([1, 2, 3], [1]), [1 + 2 ** 14, 2, 3])

    def test_the_greatest_cost(self):
        program = compile_source(source_of_cost(20000), 10 ** 9)
        self.assertEqual(len(program), 20000)
        self.assertEqual(program.run([GREATEST, 5, 6], [3]), [59999, 5, 6])
        with self.assertRaises(TooLong):
            compile_source(source_of_cost(20001), 10 ** 9)

    def test_the_greatest_cost_with_products(self):
        # 4 ** 7 steps for a power, and 3616 for what is added.
        power = squares(8)
        for rest, many in ((3616, 20000), (3617, 20001)):
            below = source_of_cost(rest)
            moved = tuple((node[0], node[1] + 8, node[2] + 8) if node[0] == "sum" else node for node in below)
            source = power + moved + (("sum", 7, 7 + len(below)),)
            if many == 20000:
                program = compile_source(source, 1000003)
                self.assertEqual(len(program), many)
                value = (pow(2, 2 ** 7, 1000003) + 2 * rest) % 1000003
                self.assertEqual(program.run([0, 500, 1000002], [2]), [value, 500, 1000002])
            else:
                with self.assertRaises(TooLong):
                    compile_source(source, 1000003)

    def test_great_costs_are_answered_at_once(self):
        start = time.process_time()
        for source in (squares(198), squares(200), (("input", 0),) + tuple(("choose", k, k, k) for k in range(199))):
            with self.assertRaises(TooLong):
                compile_source(source, 7)
        self.assertLess(time.process_time() - start, 2)

    def test_the_order_of_errors(self):
        for modulus in (1, 0, -1, 10 ** 9 + 1, 10 ** 30, True, False, None, "2", 2.0, [2], (2,)):
            for source in ((("const", 1),), squares(198), source_of_cost(20001)):
                with self.subTest(modulus=modulus), self.assertRaises(BadStep):
                    compile_source(source, modulus)
            for source in ((), None, squares(201), squares(198) + (("sum", 0, 198),), [("const", 1)]):
                with self.subTest(modulus=modulus), self.assertRaises(BadSource):
                    compile_source(source, modulus)
        for source in ((), None, squares(201), squares(198) + (("sum", 0, 198),), [("const", 1)]):
            with self.assertRaises(BadSource):
                compile_source(source, 5)

    def test_the_source_stays_and_each_program_is_its_own(self):
        source = some_source(3, 10)
        before = copy.deepcopy(source)
        program = compile_source(source, 10)
        self.assertEqual(source, before)
        program.steps.append(None)
        self.assertNotIn(None, compile_source(source, 10).steps)


class AnswerTest(unittest.TestCase):
    def test_compiled_programs(self):
        for at, source in enumerate(all_sources()):
            chance = random.Random(at)
            for modulus in MODULI:
                program = compile_source(source, modulus)
                for memory in memories(chance, modulus):
                    given = [chance.randrange(modulus) for _ in range(inputs_of(source))]
                    found = answer(program, memory, given)
                    self.assertIs(type(found), tuple)
                    self.assertEqual(found, (value_of(source, modulus, given), memory))

    def test_a_program_that_is_not_clean(self):
        program = Program(10, 2, 1, [("add", 0, 1, (("cell", 1),)), ("swap", 0, 1), ("scale", 0, 3),
                                     ("add", 0, 1, (("input", 0),))])
        # 9 + 5 is 4, exchanged 5 and 4, then 15 + 2 is 7: it was 9.
        self.assertEqual(answer(program, [9, 5], [2]), (8, [9, 5]))
        # 0 + 1 is 1, exchanged 1 and 1, then 3 + 0: it was 0.
        self.assertEqual(answer(program, [0, 1], [0]), (3, [0, 1]))

    def test_other_programs(self):
        self.assertEqual(answer(Program(5, 1, 0, []), [3], []), (0, [3]))
        self.assertEqual(answer(Program(5, 1, 0, [("add", 0, 4, ())]), [3], []), (4, [3]))
        self.assertEqual(answer(Program(5, 60, 0, [("swap", 0, 59)]), [1] + [2] * 59, []), (1, [1] + [2] * 59))
        table = ("table", 0, 1, ((0, 1), (1, 2)), 1, 2)
        self.assertEqual(answer(Program(11, 3, 0, [table]), [9, 7, 6], []), (2, [9, 7, 6]))

    def test_the_kinds_of_what_is_returned(self):
        amount, memory = answer(Program(5, 1, 0, [("add", 0, 4, ())]), [3], [])
        self.assertIs(type(amount), int)
        self.assertIs(type(memory), list)

    def test_memory_and_inputs_stay(self):
        program = compile_source((("input", 0), ("product", 0, 0)), 10)
        memory, given = [9, 8, 7], [6]
        steps = copy.deepcopy(program.steps)
        _, behind = answer(program, memory, given)
        self.assertEqual((memory, given, program.steps), ([9, 8, 7], [6], steps))
        self.assertIsNot(behind, memory)
        memory = [1, 2]
        _, behind = answer(Program(5, 2, 0, []), memory, [])
        self.assertIsNot(behind, memory)

    def test_wrong_memories_and_inputs(self):
        program = compile_source((("input", 1),), 5)
        for memory in ([], [0, 0], [0, 0, 0, 0], (0, 0, 0), None, "000", [0, 0, 5], [-1, 0, 0], [True, 0, 0],
                       [0, False, 0], [0, 0, None]):
            with self.subTest(memory=memory), self.assertRaises(BadMemory):
                answer(program, memory, [0, 0])
        for given in ([], [0], [0, 0, 0], (0, 0), None, "00", [0, 5], [-1, 0], [True, 0], [0, False], [0, None]):
            with self.subTest(given=given), self.assertRaises(BadMemory):
                answer(program, [0, 0, 0], given)


class InterfaceTest(unittest.TestCase):
    def test_functions_are_defined_in_their_file(self):
        for function in (compile_source, answer):
            self.assertEqual(function.__module__, "brimful.three")


if __name__ == "__main__":
    unittest.main()
