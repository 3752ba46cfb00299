"""Points 1 and 26 and the interface, over the whole program."""

import copy
import importlib
import inspect
import random
import unittest
from itertools import product

from brimful import errors
from brimful.desk import Desk
from brimful.gates import gates_of, perform, spread
from brimful.judge import judge, polynomials, refutes
from brimful.numbers import interpolate, inverse_of, is_prime
from brimful.points import check_boolean, compile_word, effect, length, truth
from brimful.programs import Program
from brimful.sources import check_source, cost, format_source, meaning, needs, parse_source
from brimful.three import answer, compile_source
from brimful.trees import check_tree, compile_tree, prime_of, tree_cost, tree_value
from brimful.vault import Vault
from tests.samples import some_boolean, some_source
from tests.test_errors import NAMES
from tests.test_judge import some_programs

FUNCTIONS = {
    "numbers": {"is_prime": "n", "inverse_of": "n modulus", "interpolate": "table prime x y"},
    "sources": {"check_source": "source", "meaning": "source modulus given", "cost": "source", "needs": "source",
                "format_source": "source", "parse_source": "text"},
    "three": {"compile_source": "source modulus", "answer": "program memory given"},
    "points": {"check_boolean": "source", "truth": "source bits", "length": "source", "compile_word": "source cycle",
               "effect": "word bits point"},
    "gates": {"perform": "gates bits", "spread": "target controls borrowed", "gates_of": "program"},
    "trees": {"check_tree": "tree values", "tree_value": "tree values", "prime_of": "values", "tree_cost": "tree values",
              "compile_tree": "tree values"},
    "judge": {"judge": "program target", "refutes": "program target witness", "polynomials": "program"},
}
CLASSES = {
    ("programs", "Program"): {"__init__": "self modulus cells inputs steps", "run": "self memory given", "part": "self n",
                              "called_back": "self n", "__len__": "self", "__add__": "self other", "__neg__": "self"},
    ("vault", "Vault"): {"__init__": "self memory modulus", "lend": "self program places given", "advance": "self ticket most",
                         "answer": "self ticket", "recall": "self ticket", "open_loans": "self"},
    ("desk", "Desk"): {"__init__": "self", "do": "self line"},
}
SOURCE = (("input", 0), ("product", 0, 0))
BOOLEAN = (("input", 0), ("input", 1), ("and", 0, 1))
CYCLE = (1, 2, 3, 4, 0)
TABLE = ((0, 1), (1, 0))
TREE = ("node", TABLE, ("leaf", 1), ("leaf", 0))


class InterfaceTest(unittest.TestCase):
    def check_names(self, function, names):
        self.assertEqual(list(inspect.signature(function).parameters), names.split())

    def test_functions(self):
        for module, functions in FUNCTIONS.items():
            for name, names in functions.items():
                with self.subTest(module=module, name=name):
                    function = vars(importlib.import_module("brimful." + module))[name]
                    self.assertEqual(function.__module__, "brimful." + module)
                    self.check_names(function, names)

    def test_classes(self):
        for (module, name), methods in CLASSES.items():
            found = vars(importlib.import_module("brimful." + module))[name]
            self.assertEqual(found.__module__, "brimful." + module)
            for method, names in methods.items():
                with self.subTest(name=name, method=method):
                    self.check_names(vars(found)[method], names)


def busy_vault():
    vault = Vault([0], 2)
    program = Program(2, 1, 0, [])
    vault.lend(program, [0], [])
    vault.lend(program, [0], [])
    return vault


class EachErrorTest(unittest.TestCase):
    def test_a_call_for_each_error(self):
        calls = {
            "BadStep": lambda: Program(1, 1, 0, []),
            "BadMemory": lambda: Program(2, 1, 0, []).run([2], []),
            "BadSource": lambda: cost(()),
            "BadText": lambda: parse_source(""),
            "TooLong": lambda: judge(Program(2, 60, 0, []), 0),
            "BadWord": lambda: effect([()], [], 0),
            "BadGate": lambda: perform([(0, (0,))], [True]),
            "BadTree": lambda: prime_of(0),
            "Busy": lambda: busy_vault().answer(0),
            "BadTicket": lambda: busy_vault().recall(2),
            "BadLine": lambda: Desk().do("cost"),
        }
        self.assertEqual(sorted(calls), sorted(NAMES))
        for name, call in calls.items():
            with self.subTest(name), self.assertRaises(errors.BrimfulError) as caught:
                call()
            self.assertIs(type(caught.exception), getattr(errors, name))


def calls():
    """A call of each function with its arguments; all lists among them are lists of its caller."""
    program = compile_source(SOURCE, 3)
    two = Program(2, 2, 1, [("add", 0, 1, (("input", 0), ("cell", 1))), ("swap", 0, 1), ("scale", 1, 1)])
    yield is_prime, [7]
    yield inverse_of, [3, 7]
    yield interpolate, [TABLE, 7, 3, 4]
    yield Program, [3, 3, 1, list(program.steps)]
    yield program.run, [[1, 2, 0], [2]]
    yield program.part, [2]
    yield program.called_back, [2]
    yield Program.__add__, [program, program]
    yield Program.__neg__, [program]
    yield check_source, [SOURCE]
    yield meaning, [SOURCE, 3, [2]]
    yield cost, [SOURCE]
    yield needs, [SOURCE]
    yield format_source, [SOURCE]
    yield parse_source, ["$0; #0 * #0"]
    yield compile_source, [SOURCE, 3]
    yield answer, [program, [1, 2, 0], [2]]
    yield check_boolean, [BOOLEAN]
    yield truth, [BOOLEAN, [True, False]]
    yield length, [BOOLEAN]
    yield compile_word, [BOOLEAN, CYCLE]
    yield effect, [compile_word(BOOLEAN, CYCLE), [True, True], 3]
    yield perform, [[(0, ()), (1, (0,))], [True, False, True]]
    yield perform, [[], [True]]
    yield spread, [0, (1, 2, 3, 4), [5, 6]]
    yield spread, [0, (1, 2), []]
    yield gates_of, [two]
    yield check_tree, [TREE, 2]
    yield tree_value, [TREE, 2]
    yield prime_of, [2]
    yield tree_cost, [TREE, 2]
    yield compile_tree, [TREE, 2]
    yield judge, [program, 0]
    yield judge, [program, 1]
    yield judge, [two, 0]
    yield refutes, [two, 0, ("spoilt", [0], [0, 1], 1)]
    yield refutes, [Program(3, 1, 0, [("scale", 0, 2)]), 0, ("leaky", [], [0], [1])]
    yield polynomials, [program]
    yield Vault, [[1, 2, 3], 5]
    vault = Vault([1, 2, 0, 1], 3)
    yield vault.lend, [program, [3, 1, 0], [2]]
    yield vault.advance, [0, 3]
    yield vault.recall, [0]
    yield vault.open_loans, []
    yield Desk().do, ["modulus 5"]


def shown(value):
    """What a value contains; the fields of a program are taken out of it."""
    if isinstance(value, Program):
        return ("program", value.modulus, value.cells, value.inputs, list(value.steps))
    if isinstance(value, (list, tuple)):
        return [type(value), [shown(part) for part in value]]
    return copy.deepcopy(value)


def lists_in(value):
    if isinstance(value, Program):
        return [value.steps]
    if isinstance(value, (list, tuple)):
        inner = [found for part in value for found in lists_in(part)]
        return inner + [value] if isinstance(value, list) else inner
    return []


class ArgumentsTest(unittest.TestCase):
    def test_no_function_changes_its_arguments(self):
        for function, arguments in calls():
            with self.subTest(function.__name__, arguments=arguments):
                before = shown(arguments)
                function(*arguments)
                self.assertEqual(shown(arguments), before)

    def test_lists_that_are_returned_are_new(self):
        for function, arguments in calls():
            with self.subTest(function.__name__, arguments=arguments):
                passed = lists_in(arguments)
                found = lists_in(function(*arguments))
                for one in found:
                    self.assertFalse(any(one is other for other in passed))
                self.assertEqual(len({id(one) for one in found}), len(found))

    def test_a_second_call_returns_the_same(self):
        for (function, arguments), (again, equal) in zip(calls(), calls()):
            if function.__name__ not in ("Vault", "Desk"):
                one, other = function(*arguments), again(*equal)
                if not isinstance(one, Vault):
                    self.assertEqual(shown(one), shown(other))

    def test_every_function_of_the_interface_is_called(self):
        called = {function.__name__ for function, _ in calls()}
        for functions in FUNCTIONS.values():
            self.assertLessEqual(set(functions), called)


class PromisesTest(unittest.TestCase):
    """Point 26, for things that belong to a seed."""

    def test_sources(self):
        for seed in range(100, 130):
            chance = random.Random(seed)
            source = some_source(seed, 9, 120)
            modulus = chance.choice((2, 3, 6, 97, 10 ** 9))
            memory = [chance.randrange(modulus) for _ in range(3)]
            given = [chance.randrange(modulus) for _ in range(needs(source))]
            program = compile_source(source, modulus)
            value = meaning(source, modulus, given)
            self.assertEqual(len(program), cost(source))
            self.assertEqual(program.run(memory, given), [(memory[0] + value) % modulus] + memory[1:])
            n = chance.randrange(len(program) + 1)
            self.assertEqual(program.called_back(n).run(program.part(n).run(memory, given), given), memory)

    def test_boolean_sources(self):
        for seed in range(100, 130):
            source = some_boolean(seed, 8, 120)
            word = compile_word(source, CYCLE)
            self.assertEqual(len(word), length(source))
            for bits in product((False, True), repeat=4):
                for point in range(5):
                    sent = CYCLE[point] if truth(source, list(bits)) else point
                    self.assertEqual(effect(word, list(bits), point), sent)

    def test_the_judge(self):
        for program in some_programs():
            witness = judge(program, 0)
            if witness is not None:
                self.assertIs(refutes(program, 0, witness), True)
            else:
                # Then the cell 0 is itself and the inputs alone, and every other cell is itself alone.
                for cell, terms in enumerate(polynomials(program)):
                    own = (0,) * (program.inputs + cell) + (1,) + (0,) * (program.cells - cell - 1)
                    self.assertIn((own, 1), terms)
                    for exponents, _ in terms:
                        if exponents != own:
                            self.assertEqual((cell, exponents[program.inputs:]), (0, (0,) * program.cells))


if __name__ == "__main__":
    unittest.main()
