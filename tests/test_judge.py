"""Points 6, 21 and 26: what the judge finds, and which witnesses refute."""

import copy
import random
import time
import unittest
from itertools import product

from brimful.errors import BadStep, TooLong
from brimful.judge import judge, refutes
from brimful.programs import Program
from brimful.three import compile_source
from brimful.trees import compile_tree
from tests.samples import all_sources, cost_of, inputs_of
from tests.wrong import NEVER_RIGHT

GREATEST_PRIME = 999999937
TABLE = ("table", 0, 1, ((0,),), 1, 2)


def expected(program, target):
    """What the judge is to find, from the words of the document, on all inputs and memories."""
    modulus, inputs = program.modulus, program.inputs
    amounts, leaks = {}, []
    for numbers in product(range(modulus), repeat=inputs + program.cells):
        given, memory = list(numbers[:inputs]), list(numbers[inputs:])
        behind = program.run(memory, given)
        for cell in range(program.cells):
            if cell != target and behind[cell] != memory[cell]:
                return ("spoilt", given, memory, cell)
        amounts[numbers] = (behind[target] - memory[target]) % modulus
        if amounts[numbers] != amounts[numbers[:inputs] + (0,) * program.cells]:
            leaks.append(("leaky", given, [0] * program.cells, memory))
    return leaks[0] if leaks else None


def some_step(chance, modulus, cells, inputs):
    target = chance.randrange(cells)
    others = [("cell", at) for at in range(cells) if at != target] + [("input", at) for at in range(inputs)]
    kind = chance.choice(("add", "add", "add", "scale", "swap"))
    if kind == "swap" and cells > 1:
        return ("swap",) + tuple(chance.sample(range(cells), 2))
    if kind == "scale":
        return ("scale", target, chance.randrange(1, modulus))
    factors = [chance.choice(others) for _ in range(chance.randrange(4)) if others]
    return ("add", target, chance.randrange(modulus), tuple(factors))


def some_programs():
    """Programs that spoil cells, that leak, and that are clean."""
    for modulus, cells, inputs in ((2, 1, 0), (2, 2, 1), (2, 3, 2), (2, 5, 0), (3, 1, 1), (3, 2, 0), (3, 3, 1), (5, 1, 0),
                                   (5, 2, 1), (7, 1, 2), (13, 2, 0)):
        chance = random.Random(modulus * 100 + cells * 10 + inputs)
        for many in (0, 1, 2, 3, 5):
            steps = [some_step(chance, modulus, cells, inputs) for _ in range(many)]
            program = Program(modulus, cells, inputs, steps)
            yield program
            # Only the target can change: by what the borrowed cells contain, or by the inputs alone.
            target = chance.randrange(cells)
            step = some_step(chance, modulus, 1, inputs)
            if step[0] == "add":
                step = ("add", target) + step[2:]
                yield program + Program(modulus, cells, inputs, [step]) + -program
                yield Program(modulus, cells, inputs, [step])
    for modulus in (2, 3, 5):
        inner = [("cell", 1)], [("cell", 1), ("input", 0)], [("input", 0), ("input", 0)]
        for factors in inner:
            yield Program(modulus, 2, 1, [("add", 0, modulus - 1, tuple(factors))])


def is_right(program, target, witness):
    """Whether the witness shows what it says, for witnesses of the right form."""
    kind, given, memory, last = witness
    behind = program.run(memory, given)
    if kind == "spoilt":
        return last != target and behind[last] != memory[last]
    amount = (behind[target] - memory[target]) % program.modulus
    return (program.run(last, given)[target] - last[target]) % program.modulus != amount


class JudgeTest(unittest.TestCase):
    def test_against_all_inputs_and_memories(self):
        kinds = {}
        for program in some_programs():
            for target in range(program.cells):
                with self.subTest(modulus=program.modulus, steps=program.steps, target=target):
                    found = judge(program, target)
                    self.assertEqual(found, expected(program, target))
                    kind = "clean" if found is None else found[0]
                    kinds[kind] = kinds.get(kind, 0) + 1
                    if found is not None:
                        self.assertIs(refutes(program, target, found), True)
        self.assertTrue(all(kinds[kind] > 15 for kind in ("clean", "spoilt", "leaky")), kinds)

    def test_compiled_sources_are_clean(self):
        for source in all_sources():
            for modulus in (2, 3):
                if modulus ** (inputs_of(source) + 3) * (cost_of(source) + 1) <= 40000:
                    program = compile_source(source, modulus)
                    self.assertIsNone(judge(program, 0))
                    # Every step of such a program adds to a cell; without the last one, something is missing.
                    if cost_of(source) > 3 and modulus == 3 and program.steps[-1][2] != 0:
                        self.assertEqual(judge(program.part(len(program) - 1), 0),
                                         expected(program.part(len(program) - 1), 0))

    def test_clean_for_one_cell_alone(self):
        program = Program(5, 3, 1, [("add", 1, 2, (("input", 0), ("input", 0)))])
        self.assertIsNone(judge(program, 1))
        self.assertEqual(judge(program, 0), ("spoilt", [1], [0, 0, 0], 1))
        self.assertEqual(judge(program, 2), ("spoilt", [1], [0, 0, 0], 1))

    def test_scaling_the_target_leaks(self):
        self.assertEqual(judge(Program(5, 1, 0, [("scale", 0, 3)]), 0), ("leaky", [], [0], [1]))
        self.assertEqual(judge(Program(5, 2, 0, [("scale", 1, 3)]), 1), ("leaky", [], [0, 0], [0, 1]))
        self.assertEqual(judge(Program(5, 2, 0, [("scale", 1, 3)]), 0), ("spoilt", [], [0, 1], 1))
        self.assertIsNone(judge(Program(5, 2, 0, [("scale", 1, 3), ("scale", 1, 2)]), 0))
        self.assertIsNone(judge(Program(2, 1, 0, [("scale", 0, 1)]), 0))

    def test_the_first_spoilt_run_and_its_least_cell(self):
        program = Program(3, 3, 1, [("add", 2, 1, (("input", 0), ("cell", 0))), ("add", 1, 1, (("input", 0), ("cell", 0)))])
        self.assertEqual(judge(program, 0), ("spoilt", [1], [1, 0, 0], 1))
        self.assertEqual(judge(program, 1), ("spoilt", [1], [1, 0, 0], 2))
        # Inputs come before cells, and the first cell before the last one.
        program = Program(3, 3, 0, [("swap", 0, 2)])
        self.assertEqual(judge(program, 1), ("spoilt", [], [0, 0, 1], 0))
        self.assertEqual(judge(program, 0), ("spoilt", [], [0, 0, 1], 2))
        program = Program(3, 1, 2, [("add", 0, 1, (("input", 0),)), ("add", 0, 1, (("input", 1), ("input", 1)))])
        self.assertIsNone(judge(program, 0))

    def test_a_leak_is_shown_only_if_no_cell_is_ever_spoilt(self):
        # The target leaks on the memory [0, 1], and the cell 1 is spoilt for the last input alone.
        spoiling = ("add", 1, 1, (("input", 0), ("input", 0)))
        again = ("add", 1, 4, (("input", 0),))
        leaking = ("add", 0, 1, (("cell", 1),))
        self.assertEqual(judge(Program(5, 2, 1, [leaking]), 0), ("leaky", [0], [0, 0], [0, 1]))
        # x * x - x is 0 for the inputs 0 and 1.
        self.assertEqual(judge(Program(5, 2, 1, [leaking, spoiling, again]), 0), ("spoilt", [2], [0, 0], 1))

    def test_a_leak_for_some_inputs_alone(self):
        steps = [("add", 0, 1, (("input", 0), ("input", 0), ("cell", 1))), ("add", 0, 4, (("input", 0), ("cell", 1)))]
        self.assertEqual(judge(Program(5, 2, 1, steps), 0), ("leaky", [2], [0, 0], [0, 1]))
        steps = [("add", 0, 1, (("cell", 1), ("cell", 2))), ("add", 0, 1, (("input", 0),))]
        self.assertEqual(judge(Program(5, 3, 1, steps), 0), ("leaky", [0], [0, 0, 0], [0, 1, 1]))

    def test_greater_primes(self):
        self.assertIsNone(judge(Program(401, 1, 1, [("add", 0, 7, (("input", 0),) * 3)]), 0))
        step, back = ("add", 1, 400, (("cell", 0),)), ("add", 1, 1, (("cell", 0),))
        self.assertEqual(judge(Program(401, 2, 0, [step]), 0), ("spoilt", [], [1, 0], 1))
        self.assertIsNone(judge(Program(257, 2, 0, [("add", 1, 256, (("cell", 0),)), back]), 0))
        self.assertEqual(judge(Program(100003, 1, 0, [("scale", 0, 2)]), 0), ("leaky", [], [0], [1]))

    def test_no_steps(self):
        for modulus, cells, inputs in ((2, 1, 0), (2, 3, 3), (3, 2, 1), (631, 1, 1), (399989, 1, 0)):
            for target in {0, cells - 1}:
                self.assertIsNone(judge(Program(modulus, cells, inputs, []), target))

    def test_the_kinds_of_a_witness(self):
        for program, target in ((Program(3, 2, 1, [("swap", 0, 1)]), 0), (Program(3, 2, 1, [("scale", 1, 2)]), 1)):
            found = judge(program, target)
            self.assertIs(type(found), tuple)
            self.assertEqual([type(part) for part in found[1:3]], [list, list])
            self.assertIn(type(found[3]), (int, list))

    def test_program_stays_and_lists_are_new(self):
        program = Program(3, 2, 1, [("scale", 1, 2)])
        before = copy.deepcopy(program.steps)
        found = judge(program, 1)
        for part in found[1:]:
            part.append(None)
        self.assertEqual(judge(program, 1), ("leaky", [0], [0, 0], [0, 1]))
        self.assertEqual(program.steps, before)


class ErrorsTest(unittest.TestCase):
    def test_moduli_that_are_no_primes(self):
        for modulus in (4, 6, 9, 91, 999999999, 10 ** 9):
            for steps in ([], [("add", 0, 1, ())] * 20000):
                with self.assertRaises(BadStep):
                    judge(Program(modulus, 1, 0, steps), 0)

    def test_table_steps(self):
        for steps in ([TABLE], [("swap", 0, 1)] * 3 + [TABLE], [TABLE] + [("swap", 0, 1)] * 20):
            with self.assertRaises(BadStep):
                judge(Program(2, 3, 0, steps), 0)
        with self.assertRaises(BadStep):
            judge(compile_tree(("node", ((0,),), ("leaf", 0), ("leaf", 0)), 1), 0)

    def test_targets(self):
        program = Program(2, 3, 0, [])
        for target in range(3):
            self.assertIsNone(judge(program, target))
        for target in (3, -1, 10 ** 30, True, False, None, "0", 0.0, (0,), [0]):
            with self.subTest(target), self.assertRaises(BadStep):
                judge(program, target)

    def test_the_bound(self):
        add = ("add", 0, 1, ())
        # 2 to the power 7, times 3125, and 5 to the power 5, times 128, are 400000.
        for modulus, cells, inputs, many in ((2, 7, 0, 3124), (2, 1, 6, 3124), (5, 5, 0, 127), (5, 2, 3, 127)):
            self.assertIsNone(judge(Program(modulus, cells, inputs, [add] * many), 0))
            with self.assertRaises(TooLong):
                judge(Program(modulus, cells, inputs, [add] * (many + 1)), 0)
        # 57143 times 7 is 400001.
        judge(Program(57143, 1, 0, [add] * 5), 0)
        with self.assertRaises(TooLong):
            judge(Program(57143, 1, 0, [add] * 6), 0)
        for modulus, cells, inputs in ((641, 2, 0), (641, 1, 1), (400009, 1, 0), (2, 19, 0), (2, 1, 18), (3, 12, 0)):
            with self.assertRaises(TooLong):
                judge(Program(modulus, cells, inputs, []), 0)
        for modulus, cells, inputs in ((631, 2, 0), (2, 18, 0), (2, 1, 17), (3, 11, 0)):
            self.assertIsNone(judge(Program(modulus, cells, inputs, []), 0))

    def test_no_programs(self):
        for program in (None, 0, [], ("add", 0, 1, ()), [("add", 0, 1, ())]):
            with self.assertRaises(BadStep):
                judge(program, 0)
            self.assertIs(refutes(program, 0, ("spoilt", [], [0], 0)), False)

    def test_great_programs_are_answered_at_once(self):
        start = time.process_time()
        for modulus, cells, inputs in ((GREATEST_PRIME, 60, 60), (GREATEST_PRIME, 1, 0), (2, 60, 60)):
            for steps in ([], [("add", 0, 1, ())] * 20000):
                with self.assertRaises(TooLong):
                    judge(Program(modulus, cells, inputs, steps), 0)
        self.assertLess(time.process_time() - start, 5)

    def test_a_spoilt_cell_does_not_come_before_the_bound(self):
        with self.assertRaises(TooLong):
            judge(Program(2, 7, 0, [("add", 1, 1, ())] * 3125), 0)

    def test_the_order_of_errors(self):
        long = [("add", 0, 1, ())] * 20000
        for program, target in ((Program(2, 60, 0, long), 60), (Program(2, 60, 0, long), True),
                                (Program(4, 60, 0, long), 0), (Program(2, 60, 0, long[1:] + [TABLE]), 0),
                                (Program(GREATEST_PRIME, 60, 60, [TABLE]), 0),
                                (Program(999999938, 60, 60, []), 0), (Program(GREATEST_PRIME, 60, 60, []), None)):
            with self.assertRaises(BadStep):
                judge(program, target)


class RefutesTest(unittest.TestCase):
    spoiling = Program(5, 3, 2, [("add", 1, 2, (("input", 0), ("cell", 2)))])
    leaking = Program(5, 3, 2, [("add", 0, 2, (("input", 0), ("cell", 2)))])

    def check(self, program, target, witness, right):
        with self.subTest(target=target, witness=witness):
            before = copy.deepcopy(witness)
            self.assertIs(refutes(program, target, witness), right)
            self.assertEqual(witness, before)

    def test_spoilt(self):
        self.check(self.spoiling, 0, ("spoilt", [3, 0], [4, 1, 2], 1), True)
        self.check(self.spoiling, 2, ("spoilt", [3, 0], [4, 1, 2], 1), True)
        self.check(self.spoiling, 1, ("spoilt", [3, 0], [4, 1, 2], 1), False)
        self.check(self.spoiling, 0, ("spoilt", [3, 0], [4, 1, 2], 2), False)
        self.check(self.spoiling, 0, ("spoilt", [3, 0], [4, 1, 2], 0), False)
        self.check(self.spoiling, 0, ("spoilt", [0, 3], [4, 1, 2], 1), False)
        self.check(self.spoiling, 0, ("spoilt", [3, 0], [4, 1, 0], 1), False)

    def test_leaky(self):
        self.check(self.leaking, 0, ("leaky", [3, 0], [0, 0, 0], [0, 0, 1]), True)
        self.check(self.leaking, 0, ("leaky", [3, 0], [4, 2, 3], [1, 1, 1]), True)
        self.check(self.leaking, 0, ("leaky", [3, 0], [4, 2, 1], [1, 1, 1]), False)
        self.check(self.leaking, 0, ("leaky", [3, 0], [4, 2, 3], [4, 2, 3]), False)
        self.check(self.leaking, 0, ("leaky", [0, 3], [4, 2, 3], [1, 1, 1]), False)
        self.check(self.leaking, 1, ("leaky", [3, 0], [4, 2, 3], [1, 1, 1]), False)
        # The contents differ by the same amount, modulo 5.
        self.check(Program(5, 1, 0, [("add", 0, 3, ())]), 0, ("leaky", [], [1], [4]), False)

    def test_a_leak_may_be_shown_though_a_cell_is_spoilt(self):
        program = self.leaking + self.spoiling
        self.check(program, 0, ("leaky", [3, 0], [0, 0, 0], [0, 0, 1]), True)
        self.check(program, 0, ("spoilt", [3, 0], [0, 0, 1], 1), True)
        self.check(program, 1, ("spoilt", [3, 0], [0, 0, 1], 0), True)

    def test_all_witnesses_of_small_programs(self):
        for program in some_programs():
            if program.modulus <= 3 and program.cells + program.inputs <= 3:
                givens = [list(given) for given in product(range(program.modulus), repeat=program.inputs)]
                memories = [list(memory) for memory in product(range(program.modulus), repeat=program.cells)]
                for target in range(program.cells):
                    for given, memory in product(givens, memories):
                        for witness in ([("spoilt", given, memory, cell) for cell in range(program.cells)]
                                        + [("leaky", given, memory, other) for other in memories]):
                            self.assertIs(refutes(program, target, witness), is_right(program, target, witness))

    def test_a_clean_program_is_not_refuted(self):
        program = compile_source((("input", 0), ("product", 0, 0)), 3)
        memories = [list(memory) for memory in product(range(3), repeat=3)]
        for k, memory, other in product(range(3), memories, memories[:9]):
            self.assertIs(refutes(program, 0, ("leaky", [k], memory, other)), False)
            for cell in range(3):
                self.assertIs(refutes(program, 0, ("spoilt", [k], memory, cell)), False)

    def test_one_part_changed(self):
        right = ((self.spoiling, ("spoilt", [3, 0], [4, 1, 2], 1)), (self.leaking, ("leaky", [3, 0], [4, 2, 3], [1, 1, 1])))
        for program, witness in right:
            self.check(program, 0, witness, True)
            self.check(program, 0, list(witness), False)
            for at in range(4):
                for wrong in NEVER_RIGHT + ([], (), [5] * 3, "spoil", "Spoilt", "clean", [[0]]):
                    self.check(program, 0, witness[:at] + (wrong,) + witness[at + 1:], False)
                self.check(program, 0, witness[:at] + witness[at + 1:], False)
                for more in (0, 1, None, [0, 0, 0], "spoilt"):
                    self.check(program, 0, witness[:at] + (more,) + witness[at:], False)
            self.check(program, 0, witness + ([0, 0, 0],), False)

    def test_lists_of_a_witness(self):
        for program, witness in ((self.spoiling, ("spoilt", [3, 0], [4, 1, 2], 1)),
                                 (self.leaking, ("leaky", [3, 0], [4, 2, 3], [1, 1, 1]))):
            for at in range(1, 4):
                part = witness[at]
                if isinstance(part, list):
                    others = [part + [0], [0] + part, part[1:], part[:-1], [], tuple(part), str(part), dict(enumerate(part))]
                    for place in range(len(part)):
                        for wrong in (5, -1, 10 ** 30, True, False, None, "1", 1.0, [1], (1,)):
                            others.append(part[:place] + [wrong] + part[place + 1:])
                    for other in others:
                        self.check(program, 0, witness[:at] + (other,) + witness[at + 1:], False)

    def test_cells_of_a_witness(self):
        program = Program(5, 3, 0, [("add", cell, 1, ()) for cell in range(3)])
        for cell in range(3):
            self.check(program, 0, ("spoilt", [], [0, 0, 0], cell), cell != 0)
        for cell in (3, -1, -2, 10 ** 30, True, False, None, "1", 1.0, [1], (1,)):
            self.check(program, 0, ("spoilt", [], [0, 0, 0], cell), False)

    def test_a_word_does_not_go_with_the_parts_of_the_other(self):
        self.check(self.spoiling, 0, ("leaky", [3, 0], [4, 1, 2], 1), False)
        self.check(self.leaking, 0, ("spoilt", [3, 0], [4, 2, 3], [1, 1, 1]), False)

    def test_no_witness_at_all(self):
        for witness in (None, True, False, 0, 1, "", "spoilt", "abcd", b"abcd", (), [], {}, (None,) * 4, ([],) * 4,
                        ("spoilt",), ("spoilt", [0, 0], [0, 0, 0]), {"spoilt": 1}, {0, 1, 2, 3}):
            self.check(self.spoiling, 0, witness, False)
            self.check(self.leaking, 1, witness, False)

    def test_programs_that_the_judge_does_not_judge(self):
        table = ((0, 1), (1, 0))
        program = Program(7, 3, 0, [("table", 0, 1, table, 1, 2)])
        self.check(program, 1, ("spoilt", [], [0, 0, 1], 0), True)
        self.check(program, 0, ("leaky", [], [0, 0, 0], [0, 0, 1]), True)
        self.check(program, 0, ("leaky", [], [5, 1, 0], [0, 0, 1]), False)
        program = Program(10, 2, 0, [("add", 0, 5, (("cell", 1),))])
        self.check(program, 0, ("leaky", [], [0, 0], [0, 1]), True)
        self.check(program, 0, ("leaky", [], [0, 0], [0, 2]), False)
        self.check(program, 1, ("spoilt", [], [0, 1], 0), True)
        self.check(program, 1, ("spoilt", [], [0, 2], 0), False)
        program = Program(GREATEST_PRIME, 60, 60, [("add", 59, 1, (("input", 59),))] * 20000)
        self.check(program, 0, ("spoilt", [0] * 59 + [1], [0] * 60, 59), True)
        self.check(program, 59, ("spoilt", [0] * 59 + [1], [0] * 60, 59), False)
        self.check(program, 59, ("leaky", [0] * 59 + [1], [0] * 60, [1] * 60), False)
        tree = compile_tree(("node", table, ("leaf", 1), ("leaf", 0)), 2)
        self.check(tree, 0, ("leaky", [], [0, 0, 0], [4, 3, 2]), False)
        self.check(tree, 1, ("spoilt", [], [0, 0, 0], 0), True)

    def test_targets_that_are_no_cells(self):
        for target in (3, 60, -1, -3, 10 ** 30, True, False, None, "0", "", 0.5, (0,), [0], {}):
            for program, witness in ((self.spoiling, ("spoilt", [3, 0], [4, 1, 2], 1)),
                                     (self.leaking, ("leaky", [3, 0], [4, 2, 3], [1, 1, 1])),
                                     (self.leaking, ("spoilt", [3, 0], [4, 2, 3], 2)), (self.leaking, None)):
                self.assertIn(type(refutes(program, target, witness)), (bool,))
            self.check(self.leaking, target, ("leaky", [3, 0], [4, 2, 3], [1, 1, 1]), False)
        # The cell 1 is another one than this, and it is not as before.
        self.check(self.spoiling, 3, ("spoilt", [3, 0], [4, 1, 2], 1), True)


if __name__ == "__main__":
    unittest.main()
