"""Points 15 to 17: gates performed, spread over borrowed bits, and made of programs with the modulus 2."""

import copy
import random
import unittest
from itertools import permutations, product

from brimful.errors import BadGate, BadMemory, BadStep
from brimful.gates import gates_of, perform, spread
from brimful.programs import Program
from brimful.three import compile_source
from tests.samples import all_bits, all_sources, inputs_of
from tests.wrong import replaced, with_lists_for_tuples

NO_BIT = (-1, 120, 121, 10 ** 30, True, False, None, "0", 0.0, (0,), [0])
NO_BITS = (None, 0, "", "01", b"01", (), (True, False), {0: True}, range(2), True, [0], [1, 0], [True, 1], [None],
           [True, "False"], [[True]], [True, False, 0.0])


def some_gate(chance, bits):
    target = chance.randrange(bits)
    others = [bit for bit in range(bits) if bit != target]
    return target, tuple(sorted(chance.sample(others, chance.randrange(min(5, bits)))))


def performed(gates, bits):
    bits = list(bits)
    for target, controls in gates:
        if False not in [bits[control] for control in controls]:
            bits[target] = not bits[target]
    return bits


class PerformTest(unittest.TestCase):
    def test_no_controls(self):
        self.assertEqual(perform([(0, ())], [False]), [True])
        self.assertEqual(perform([(0, ())], [True]), [False])
        self.assertEqual(perform([(1, ())], [True, True, True]), [True, False, True])

    def test_one_control(self):
        for a, b in product((False, True), repeat=2):
            self.assertEqual(perform([(0, (1,))], [a, b]), [a != b, b])
            self.assertEqual(perform([(1, (0,))], [a, b]), [a, a != b])

    def test_several_controls(self):
        for bits in all_bits(5):
            turned = bits[0] and bits[1] and bits[3] and bits[4]
            self.assertEqual(perform([(2, (0, 1, 3, 4))], bits), bits[:2] + [bits[2] != turned] + bits[3:])

    def test_gates_one_after_the_other(self):
        self.assertEqual(perform([(0, ()), (1, (0,)), (2, (0, 1))], [False] * 3), [True] * 3)
        self.assertEqual(perform([(2, (0, 1)), (1, (0,)), (0, ())], [False] * 3), [True, False, False])
        self.assertEqual(perform([(0, (1,)), (1, (0,)), (0, (1,))], [True, False]), [False, True])
        self.assertEqual(perform([(0, ()), (0, ())], [False]), [False])

    def test_against_the_words_of_the_document(self):
        chance = random.Random(5)
        for _ in range(200):
            gates = [some_gate(chance, 8) for _ in range(12)]
            bits = [chance.random() < 0.7 for _ in range(8)]
            self.assertEqual(perform(gates, bits), performed(gates, bits))

    def test_the_reverse_list_leads_back(self):
        chance = random.Random(6)
        for _ in range(200):
            gates = [some_gate(chance, 8) for _ in range(12)]
            bits = [chance.random() < 0.7 for _ in range(8)]
            self.assertEqual(perform(gates[::-1], perform(gates, bits)), bits)
            self.assertEqual(perform(gates, perform(gates[::-1], bits)), bits)

    def test_no_gates(self):
        for bits in ([], [True], [False, True]):
            behind = perform([], bits)
            self.assertEqual(behind, bits)
            self.assertIsNot(behind, bits)

    def test_more_bits_than_the_gates_touch(self):
        self.assertEqual(perform([(0, ())], [False] + [True] * 500), [True] * 501)

    def test_too_few_bits(self):
        for many in range(4):
            with self.assertRaises(BadMemory):
                perform([(3, ())], [True] * many)
            with self.assertRaises(BadMemory):
                perform([(0, (1, 3))], [True] * many)
            # A gate that would not be reached if the first one failed, and whose control is False.
            with self.assertRaises(BadMemory):
                perform([(0, ()), (1, (3,))], [False] * many)
        self.assertEqual(perform([(3, ())], [True] * 4), [True] * 3 + [False])

    def test_the_greatest_bits(self):
        bits = [True] * 120
        self.assertEqual(perform([(119, (0, 118))], bits), bits[:119] + [False])
        self.assertEqual(perform([(0, (119,))], bits), [False] + bits[1:])
        self.assertEqual(perform([(0, tuple(range(1, 120)))], bits), [False] + bits[1:])

    def test_the_longest_list(self):
        self.assertEqual(perform([(0, (1,))] * 60000, [True, True]), [True, True])
        self.assertEqual(perform([(0, (1,))] * 59999, [True, True]), [False, True])
        for bits in ([True, True], [], None):
            with self.assertRaises(BadGate):
                perform([(0, (1,))] * 60001, bits)

    def test_the_kinds_of_what_is_returned(self):
        behind = perform([(0, ()), (1, (0,))], [False, True])
        self.assertIs(type(behind), list)
        self.assertEqual([type(bit) for bit in behind], [bool, bool])

    def test_gates_and_bits_stay(self):
        gates, bits = [(0, ()), (1, (0,)), (2, (0, 1))], [False, True, False]
        before = copy.deepcopy((gates, bits))
        behind = perform(gates, bits)
        self.assertEqual((gates, bits), before)
        self.assertIsNot(behind, bits)


class WrongGatesTest(unittest.TestCase):
    def reject(self, *lists):
        for gates in lists:
            for bits in ([True] * 120, [], None, (True,) * 120, [1] * 120):
                with self.subTest(gates=gates), self.assertRaises(BadGate):
                    perform(gates, bits)

    def reject_gate(self, *gates):
        for gate in gates:
            self.reject([gate], [(0, ()), gate], [gate, (0, ())])

    def test_targets(self):
        for target in NO_BIT:
            self.reject_gate((target, ()), (target, (1,)))

    def test_controls(self):
        for control in NO_BIT:
            self.reject_gate((2, (control,)), (2, (0, control)), (2, (control, 3)))

    def test_controls_that_are_not_rising(self):
        self.reject_gate((0, (2, 1)), (0, (1, 3, 2)), (0, (3, 2, 1)), (0, (119, 118)))

    def test_controls_that_stand_twice(self):
        self.reject_gate((0, (1, 1)), (0, (1, 2, 2)), (0, (1, 1, 2)), (0, (1, 2, 1)))

    def test_controls_that_hold_the_target(self):
        self.reject_gate((0, (0,)), (1, (0, 1)), (1, (1, 2)), (1, (0, 1, 2)), (119, (119,)))

    def test_wrong_kinds_of_controls(self):
        for controls in (None, 1, True, "", "1", b"\x01", {}, {1: 2}, [], [1], range(1, 2), (None,), ((),), ((1,),)):
            self.reject_gate((0, controls))

    def test_what_is_no_gate(self):
        self.reject_gate(None, 0, True, "", "01", (), (0,), (0, (), ()), (0, (1,), 2), ((), 0), [0, ()], [0, (1,)], {}, (1, 2))

    def test_what_is_no_list(self):
        self.reject(None, 0, True, "", "gates", b"", (), ((0, ()),), {}, {(0, ()): 1}, range(0), iter([(0, ())]), (0, ()))

    def test_wrong_values_at_every_place(self):
        right = [(5, (1, 2)), (0, (3, 119)), (1, ())]
        self.assertEqual(len(perform(right, [True] * 120)), 120)
        for gate in range(3):
            for wrong in (*NO_BIT, {}, b"0", ()):
                self.reject(replaced(right, (gate,), wrong), replaced(right, (gate, 0), wrong))
                if wrong not in ((0,), ()):
                    self.reject(replaced(right, (gate, 1), wrong))
                for control in range(len(right[gate][1])):
                    self.reject(replaced(right, (gate, 1, control), wrong))
        for wrong in with_lists_for_tuples(right):
            self.reject(wrong)

    def test_bits_of_another_kind(self):
        for bits in NO_BITS:
            with self.subTest(bits=bits), self.assertRaises(BadMemory):
                perform([(0, ())], bits)
            with self.subTest(bits=bits), self.assertRaises(BadMemory):
                perform([], bits)
        for at in range(4):
            for wrong in (0, 1, None, "True"):
                bits = [True] * 4
                bits[at] = wrong
                with self.subTest(bits=bits), self.assertRaises(BadMemory):
                    perform([(0, ())], bits)


class SpreadTest(unittest.TestCase):
    def check_form(self, target, controls, borrowed):
        gates = spread(target, controls, borrowed)
        self.assertIs(type(gates), list)
        self.assertEqual(len(gates), 4 * (len(controls) - 2))
        bits = {target, *controls, *borrowed}
        for gate in gates:
            self.assertIs(type(gate), tuple)
            self.assertEqual(len(gate), 2)
            self.assertIs(type(gate[1]), tuple)
            self.assertEqual(len(gate[1]), 2)
            self.assertLessEqual({gate[0], *gate[1]}, bits)
            self.assertLess(gate[1][0], gate[1][1])
            self.assertNotIn(gate[0], gate[1])
        return gates

    def check_effect(self, gates, target, controls, bits):
        behind = perform(gates, bits)
        right = list(bits)
        if all(bits[control] for control in controls):
            right[target] = not right[target]
        self.assertEqual(behind, right)

    def test_fewer_than_three_controls(self):
        for target, controls in ((0, ()), (119, ()), (0, (1,)), (7, (3,)), (0, (1, 2)), (5, (0, 119))):
            gates = spread(target, controls, [])
            self.assertEqual(gates, [(target, controls)])
            self.assertIs(type(gates), list)

    def test_all_contents(self):
        for controls in range(3, 7):
            many = 2 * controls - 1
            orders = [list(range(many)), list(range(many))[::-1]]
            chance = random.Random(controls)
            orders += [chance.sample(range(many), many) for _ in range(3)]
            for order in orders:
                target, taken, borrowed = order[0], tuple(sorted(order[1:controls + 1])), order[controls + 1:]
                gates = self.check_form(target, taken, borrowed)
                for bits in all_bits(many):
                    self.check_effect(gates, target, taken, bits)

    def test_many_controls(self):
        chance = random.Random(8)
        for many in (7, 8, 20, 59, 60):
            order = chance.sample(range(120), 2 * many - 1)
            target, controls, borrowed = order[0], tuple(sorted(order[1:many + 1])), order[many + 1:]
            gates = self.check_form(target, controls, borrowed)
            for absent in (None, *controls):
                bits = [chance.random() < 0.5 for _ in range(120)]
                for control in controls:
                    bits[control] = control != absent
                self.check_effect(gates, target, controls, bits)
            for _ in range(20):
                bits = [chance.random() < 0.9 for _ in range(120)]
                self.check_effect(gates, target, controls, bits)

    def reject(self, *cases):
        for target, controls, borrowed in cases:
            with self.subTest(target=target, controls=controls, borrowed=borrowed), self.assertRaises(BadGate):
                spread(target, controls, borrowed)

    def test_bits_that_are_none(self):
        self.assertEqual(len(spread(0, (1, 2, 3, 119), [4, 118])), 8)
        self.assertEqual(len(spread(119, (1, 2, 3, 4), [0, 118])), 8)
        for wrong in NO_BIT:
            self.reject((wrong, (1, 2, 3, 4), [5, 6]), (0, (wrong, 2, 3, 4), [5, 6]), (0, (1, 2, 3, wrong), [5, 6]),
                        (0, (1, 2, 3, 4), [wrong, 6]), (0, (1, 2, 3, 4), [5, wrong]), (wrong, (), []),
                        (wrong, (1, 2), []), (5, (wrong,), []), (5, (0, wrong), []))

    def test_controls_that_are_not_rising(self):
        self.reject((0, (1, 3, 2), [4]), (0, (3, 2, 1), [4]), (0, (1, 1, 2), [4]), (0, (1, 2, 2), [4]), (0, (2, 1), []),
                    (0, (1, 1), []), (0, (1, 2, 4, 3), [5, 6]))

    def test_not_as_many_borrowed_bits_as_needed(self):
        self.reject((0, (), [1]), (0, (1,), [2]), (0, (1, 2), [3]), (0, (1, 2), [3, 4]), (0, (1, 2, 3), []),
                    (0, (1, 2, 3), [4, 5]), (0, (1, 2, 3, 4), []), (0, (1, 2, 3, 4), [5]), (0, (1, 2, 3, 4), [5, 6, 7]))

    def test_borrowed_bits_that_are_the_same(self):
        self.reject((0, (1, 2, 3, 4), [5, 5]), (0, (1, 2, 3, 4, 5), [6, 7, 6]), (0, (1, 2, 3, 4), [5, 5, 6]))

    def test_one_bit_in_two_of_them(self):
        self.reject((1, (1, 2, 3), [4]), (3, (1, 2, 3), [4]), (0, (1, 2, 3), [0]), (0, (1, 2, 3), [1]),
                    (0, (1, 2, 3), [3]), (0, (1, 2, 3, 4), [5, 0]), (0, (1, 2, 3, 4), [2, 5]), (1, (1,), []), (1, (0, 1), []))

    def test_too_many_controls(self):
        # With 61 controls there are not enough bits left.
        self.reject((0, tuple(range(1, 62)), list(range(62, 120))), (0, tuple(range(1, 62)), list(range(61, 120))),
                    (0, tuple(range(1, 120)), []))

    def test_other_kinds(self):
        for borrowed in (None, (), (4,), 4, "4", "", {4: 4}, {}, True, range(4, 5), [[4]], [(4,)], b"\x04"):
            self.reject((0, (1, 2, 3), borrowed))
        for borrowed in (None, (), "", {}, 0, False, range(0)):
            self.reject((0, (1, 2), borrowed), (0, (), borrowed))
        for controls in (None, [1, 2, 3], [], 1, "123", {1: 1}, range(1, 4), True, ((1, 2, 3),), b"\x01\x02\x03"):
            self.reject((0, controls, [4]), (0, controls, []))

    def test_what_is_passed_stays_and_the_list_is_new(self):
        controls, borrowed = (1, 2, 3, 4, 5), [9, 7, 8]
        spread(0, controls, borrowed)
        self.assertEqual((controls, borrowed), ((1, 2, 3, 4, 5), [9, 7, 8]))
        spread(0, controls, borrowed).append(None)
        self.assertNotIn(None, spread(0, controls, borrowed))


class GatesOfTest(unittest.TestCase):
    def gates(self, *steps, cells=3, inputs=2):
        return gates_of(Program(2, cells, inputs, list(steps)))

    def test_add(self):
        self.assertEqual(self.gates(("add", 0, 1, ())), [(2, ())])
        self.assertEqual(self.gates(("add", 1, 1, (("cell", 0),))), [(3, (2,))])
        self.assertEqual(self.gates(("add", 1, 1, (("input", 1),))), [(3, (1,))])
        self.assertEqual(self.gates(("add", 0, 1, (("cell", 2), ("input", 1), ("cell", 1)))), [(2, (1, 3, 4))])
        self.assertEqual(self.gates(("add", 2, 1, (("input", 0), ("input", 1), ("cell", 0)))), [(4, (0, 1, 2))])

    def test_controls_are_rising_in_whatever_order_the_factors_stand(self):
        for first, second, third in permutations((("input", 9), ("input", 40), ("cell", 24))):
            gates = self.gates(("add", 0, 1, (first, second, third)), cells=60, inputs=60)
            self.assertEqual(gates, [(60, (9, 40, 84))])

    def test_a_factor_that_stands_twice(self):
        self.assertEqual(self.gates(("add", 0, 1, (("cell", 1), ("cell", 1)))), [(2, (3,))])
        self.assertEqual(self.gates(("add", 0, 1, (("input", 1), ("cell", 2), ("input", 1)))), [(2, (1, 4))])
        self.assertEqual(self.gates(("add", 0, 1, (("cell", 2),) * 3)), [(2, (4,))])

    def test_an_input_and_a_cell_of_the_same_number(self):
        self.assertEqual(self.gates(("add", 0, 1, (("cell", 1), ("input", 1)))), [(2, (1, 3))])
        self.assertEqual(self.gates(("add", 1, 1, (("input", 1),))), [(3, (1,))])

    def test_the_coefficient_zero(self):
        self.assertEqual(self.gates(("add", 0, 0, ())), [])
        self.assertEqual(self.gates(("add", 0, 0, (("cell", 1), ("input", 0)))), [])

    def test_scale(self):
        self.assertEqual(self.gates(("scale", 2, 1)), [])

    def test_swap(self):
        self.assertEqual(self.gates(("swap", 0, 2)), [(2, (4,)), (4, (2,)), (2, (4,))])
        self.assertEqual(self.gates(("swap", 2, 0)), [(4, (2,)), (2, (4,)), (4, (2,))])
        self.assertEqual(self.gates(("swap", 0, 1), inputs=0), [(0, (1,)), (1, (0,)), (0, (1,))])

    def test_several_steps_in_order(self):
        gates = self.gates(("add", 0, 1, ()), ("scale", 0, 1), ("swap", 0, 1), ("add", 0, 0, ()), ("add", 2, 1, (("cell", 0),)))
        self.assertEqual(gates, [(2, ()), (2, (3,)), (3, (2,)), (2, (3,)), (4, (2,))])
        self.assertEqual(self.gates(), [])

    def test_a_table_step(self):
        table = ("table", 0, 1, ((0, 1), (1, 0)), 1, 2)
        for steps in ([table], [("add", 0, 1, ()), table], [table, ("swap", 0, 1)]):
            with self.assertRaises(BadStep):
                gates_of(Program(2, 3, 0, steps))

    def test_another_modulus(self):
        for modulus in (3, 4, 10, 10 ** 9):
            for steps in ([], [("add", 0, 1, ())], [("scale", 0, 1)], [("swap", 0, 1)]):
                with self.subTest(modulus=modulus, steps=steps), self.assertRaises(BadStep):
                    gates_of(Program(modulus, 3, 0, steps))

    def check_against_the_program(self, program, given, memory):
        bits = [number == 1 for number in given + memory]
        behind = perform(gates_of(program), bits)
        self.assertEqual(behind, [number == 1 for number in given + program.run(memory, given)])

    def test_the_gates_do_what_the_program_does(self):
        chance = random.Random(3)
        for _ in range(60):
            steps = []
            for _ in range(chance.randint(1, 10)):
                target, a, b = chance.sample(range(3), 3)
                factors = [chance.choice((("cell", a), ("cell", b), ("input", 0), ("input", 1)))
                           for _ in range(chance.randrange(4))]
                steps.append(chance.choice((("add", target, 1, tuple(factors)), ("add", target, 0, tuple(factors)),
                                            ("add", target, 1, tuple(factors)), ("scale", target, 1), ("swap", a, b))))
            program = Program(2, 3, 2, steps)
            before = copy.deepcopy(steps)
            for numbers in product((0, 1), repeat=5):
                self.check_against_the_program(program, list(numbers[:2]), list(numbers[2:]))
            self.assertEqual(program.steps, before)

    def test_compiled_sources(self):
        chance = random.Random(2)
        for source in all_sources():
            program = compile_source(source, 2)
            for _ in range(8):
                given = [chance.randrange(2) for _ in range(inputs_of(source))]
                self.check_against_the_program(program, given, [chance.randrange(2) for _ in range(3)])

    def test_the_greatest_program(self):
        program = Program(2, 60, 60, [("swap", 0, 59)] * 20000)
        gates = gates_of(program)
        self.assertEqual(len(gates), 60000)
        bits = [True] * 61 + [False] * 59
        self.assertEqual(perform(gates, bits), bits)
        self.assertEqual(gates_of(Program(2, 60, 60, [("add", 59, 1, (("input", 59),))])), [(119, (59,))])

    def test_the_kinds_of_what_is_returned(self):
        gates = self.gates(("add", 0, 1, (("cell", 1),)), ("swap", 0, 1))
        self.assertIs(type(gates), list)
        for gate in gates:
            self.assertEqual((type(gate), type(gate[0]), type(gate[1])), (tuple, int, tuple))


class InterfaceTest(unittest.TestCase):
    def test_functions_are_defined_in_their_file(self):
        for function in (perform, spread, gates_of):
            self.assertEqual(function.__module__, "brimful.gates")


if __name__ == "__main__":
    unittest.main()
