"""Points 18 to 20 and 26: trees of functions, their values and costs, and the programs for them."""

import copy
import functools
import random
import reprlib
import time
import unittest
from itertools import product

from brimful.errors import BadTree, TooLong
from brimful.programs import Program
from brimful.trees import check_tree, compile_tree, prime_of, tree_cost, tree_value
from tests.wrong import with_lists_for_tuples, with_more_or_less, with_wrong_values

ASKING = (check_tree, tree_value, tree_cost, compile_tree)
AND, XOR = ((0, 0), (0, 1)), ((0, 1), (1, 0))
# Rows and columns are told apart: the value is that of the left tree, or that of the right one.
LEFT, RIGHT = ((0, 0, 0), (1, 1, 1), (2, 2, 2)), ((0, 1, 2), (0, 1, 2), (0, 1, 2))
ZERO = ("leaf", 0)


def value_of(tree):
    if tree[0] == "leaf":
        return tree[1]
    row = tree[1][value_of(tree[2])]
    return row[value_of(tree[3])]


@functools.cache
def least_prime(values):
    return next(n for n in range(max(3, 2 * values), 200) if all(n % divisor for divisor in range(2, n)))


def cost_of(tree, values):
    if tree[0] == "leaf":
        return 1
    return (least_prime(values) - 1) * (2 * (cost_of(tree[2], values) + cost_of(tree[3], values)) + 5)


def some_table(chance, values):
    return tuple(tuple(chance.randrange(values) for _ in range(values)) for _ in range(values))


def some_leaf(chance, values):
    return ("leaf", chance.randrange(values))


def some_node(chance, values, left=None, right=None):
    return ("node", some_table(chance, values), left or some_leaf(chance, values), right or some_leaf(chance, values))


def comb(chance, values, depth, side):
    """A tree nested so deep, all of whose nodes are on one side."""
    tree = some_leaf(chance, values)
    for _ in range(depth - 1):
        tree = some_node(chance, values, **{side: tree})
    return tree


def full(chance, values, depth):
    """A tree all of whose leaves are so deep."""
    if depth == 1:
        return some_leaf(chance, values)
    return some_node(chance, values, full(chance, values, depth - 1), full(chance, values, depth - 1))


def with_nodes(table, many):
    """A tree of so many nodes (an odd number), nested at most 40 deep, if they are at most 1599."""
    if many == 1:
        return ZERO
    left = (many - 1) // 2 | 1
    return ("node", table, with_nodes(table, left), with_nodes(table, many - 1 - left))


def trees_by_cost():
    """Trees over one value by their costs, up to 21000: none of them costs exactly 20000."""
    found = {1: ZERO}
    waiting = [1]
    while waiting:
        at = waiting.pop()
        for other in list(found):
            many = 4 * (at + other) + 10
            if many <= 21000 and many not in found:
                found[many] = ("node", ((0,),), found[at], found[other])
                waiting.append(many)
    return found


def small_trees():
    """Trees of few steps: pairs of a number of values and a tree."""
    for values in (1, 2, 3, 4, 5, 7, 13, 22, 40):
        chance = random.Random(values)
        for _ in range(3):
            yield values, some_leaf(chance, values)
            yield values, some_node(chance, values)
    for values in (1, 2, 3, 4, 6):
        chance = random.Random(values)
        yield values, full(chance, values, 3)
        yield values, comb(chance, values, 3, "left")
        yield values, comb(chance, values, 3, "right")
    for values in (1, 2):
        chance = random.Random(values)
        yield values, comb(chance, values, 4, "left")
        yield values, comb(chance, values, 4, "right")
        yield values, some_node(chance, values, comb(chance, values, 2, "left"), comb(chance, values, 3, "right"))


def memories(chance, prime):
    last = prime - 1
    yield [0, 0, 0]
    yield [last, last, last]
    yield [last, 0, 1]
    for _ in range(3):
        yield [chance.randrange(prime) for _ in range(3)]


class TreeTest(unittest.TestCase):
    def reject(self, tree, values):
        for function in ASKING:
            with self.subTest(function.__name__, tree=reprlib.repr(tree), values=values):
                with self.assertRaises(BadTree):
                    function(tree, values)


class CheckTest(TreeTest):
    def test_leaves(self):
        for values in (1, 2, 3, 40):
            for v in range(values):
                self.assertIsNone(check_tree(("leaf", v), values))
            for v in (-1, values, values + 1, 10 ** 30, True, False, None, "0", "", 0.0, (0,), [0], ZERO):
                self.reject(("leaf", v), values)

    def test_nodes(self):
        self.assertIsNone(check_tree(("node", ((0,),), ZERO, ZERO), 1))
        self.assertIsNone(check_tree(("node", AND, ("leaf", 1), ("node", XOR, ZERO, ("leaf", 1))), 2))
        for values, tree in small_trees():
            self.assertIsNone(check_tree(tree, values))

    def test_numbers_of_values(self):
        for values in range(1, 41):
            self.assertIsNone(check_tree(ZERO, values))
        for values in (0, -1, 41, 42, 10 ** 30, True, False, None, "2", "", 2.0, (2,), [2]):
            for tree in (ZERO, ("node", ((0,),), ZERO, ZERO), ("node", AND, ZERO, ZERO), None):
                self.reject(tree, values)

    def test_a_tree_over_another_number_of_values(self):
        for values in (1, 3, 4, 40):
            self.reject(("node", AND, ZERO, ZERO), values)
        self.assertIsNone(check_tree(("leaf", 1), 40))
        self.reject(("leaf", 1), 1)
        self.reject(("node", ((0, 0), (0, 2)), ZERO, ZERO), 2)

    def test_tables(self):
        for table in ((), ((),), ((0,),), ((0, 1),), ((0, 1), (1,)), ((0,), (1,)), ((0, 1), (1, 0), (0, 1)),
                      ((0, 1, 0), (1, 0, 0)), ((0, 1), (1, 0, 0)), ((0, 1, 0), (1, 0)), (0, 1), (0, 1, 1, 0),
                      [(0, 1), (1, 0)], ([0, 1], [1, 0]), ((0, 1), [1, 0]), {0: (0, 1), 1: (1, 0)}, "01", None, 0):
            self.reject(("node", table, ZERO, ZERO), 2)
        for entry in (-1, 2, 10 ** 30, True, False, None, "1", 1.0, (1,), [1]):
            for at in product((0, 1), repeat=2):
                table = [list(row) for row in AND]
                table[at[0]][at[1]] = entry
                self.reject(("node", tuple(tuple(row) for row in table), ZERO, ZERO), 2)

    def test_parts_too_many_or_too_few(self):
        for tree in ((), ("leaf",), ("leaf", 0, 0), (0,), ("node",), ("node", AND), ("node", AND, ZERO),
                     ("node", AND, ZERO, ZERO, ZERO), ("node", ZERO, ZERO), (AND, ZERO, ZERO), ("leaf", AND, ZERO, ZERO),
                     ("node", 0), ("node", ZERO, ZERO, AND)):
            self.reject(tree, 2)
            self.reject(("node", AND, tree, ZERO), 2)
            self.reject(("node", AND, ZERO, tree), 2)

    def test_other_words_and_kinds(self):
        for word in ("Leaf", "leaf ", "leaves", "", "node", "Node", None, 0, True, b"leaf", ("leaf",), ["leaf"]):
            self.reject((word, 0), 2)
        for word in ("Node", "nodes", "", "leaf", None, 0, True, b"node", ("node",)):
            self.reject((word, AND, ZERO, ZERO), 2)
        for tree in (None, True, 0, "", "leaf", b"leaf", {}, {"leaf": 0}, ["leaf", 0], ["node", AND, ZERO, ZERO]):
            self.reject(tree, 2)
            self.reject(("node", AND, tree, ZERO), 2)
            self.reject(("node", AND, ZERO, tree), 2)

    def test_a_wrong_value_at_every_place(self):
        tree = ("node", AND, ("node", XOR, ("leaf", 1), ZERO), ("leaf", 1))
        for changes in (with_wrong_values, with_lists_for_tuples, with_more_or_less):
            for wrong in changes(tree):
                self.reject(wrong, 2)

    def test_number_of_nodes(self):
        # Each node has two trees below it, so all numbers are odd.
        table = ((0,),)
        for many in (197, 199):
            self.assertIsNone(check_tree(with_nodes(table, many), 1))
            self.assertEqual(tree_value(with_nodes(table, many), 1), 0)
        for many in (201, 203, 1001):
            self.reject(with_nodes(table, many), 1)

    def test_depth(self):
        chance = random.Random(3)
        for side in ("left", "right"):
            for values in (1, 2, 40):
                deep = comb(chance, values, 40, side)
                self.assertIsNone(check_tree(deep, values))
                self.assertEqual(tree_value(deep, values), value_of(deep))
                for deeper in (some_node(chance, values, left=deep), some_node(chance, values, right=deep)):
                    self.reject(deeper, values)
            self.reject(comb(chance, 1, 90, side), 1)

    def test_one_tuple_in_very_many_places(self):
        tree = ZERO
        for _ in range(39):
            tree = ("node", ((0,),), tree, tree)
        start = time.process_time()
        self.reject(tree, 1)
        self.assertLess(time.process_time() - start, 2)
        tree = ZERO
        for _ in range(6):
            tree = ("node", ((0,),), tree, tree)
        self.assertIsNone(check_tree(tree, 1))
        self.reject(("node", ((0,),), tree, tree), 1)

    def test_very_deep_tuples(self):
        tree = ZERO
        for _ in range(5000):
            tree = ("node", ((0,),), tree, ZERO)
        for function in ASKING:
            with self.assertRaises(BadTree):
                function(tree, 1)


class ValueTest(unittest.TestCase):
    def test_leaves(self):
        for values in (1, 2, 40):
            for v in range(values):
                self.assertEqual(tree_value(("leaf", v), values), v)

    def test_the_left_tree_gives_the_row(self):
        for a, b in product(range(3), repeat=2):
            self.assertEqual(tree_value(("node", LEFT, ("leaf", a), ("leaf", b)), 3), a)
            self.assertEqual(tree_value(("node", RIGHT, ("leaf", a), ("leaf", b)), 3), b)

    def test_known_values(self):
        for a, b, c in product((0, 1), repeat=3):
            tree = ("node", XOR, ("node", AND, ("leaf", a), ("leaf", b)), ("leaf", c))
            self.assertEqual(tree_value(tree, 2), a & b ^ c)
            tree = ("node", AND, ("leaf", a), ("node", XOR, ("leaf", b), ("leaf", c)))
            self.assertEqual(tree_value(tree, 2), a & (b ^ c))

    def test_mixed_trees(self):
        for values, tree in small_trees():
            self.assertEqual(tree_value(tree, values), value_of(tree))
        chance = random.Random(11)
        for values in (2, 3, 17, 40):
            tree = full(chance, values, 7)
            self.assertEqual(tree_value(tree, values), value_of(tree))

    def test_great_tree(self):
        # 199 nodes, each of which counts the leaves with the value 1, modulo 3.
        table = tuple(tuple((a + b) % 3 for b in range(3)) for a in range(3))
        tree = ("leaf", 1)
        for _ in range(39):
            tree = ("node", table, tree, ("leaf", 1))
        self.assertEqual(tree_value(tree, 3), 40 % 3)


class PrimeTest(unittest.TestCase):
    def test_each_number_of_values(self):
        known = {1: 3, 2: 5, 3: 7, 4: 11, 5: 11, 6: 13, 7: 17, 8: 17, 9: 19, 10: 23, 12: 29, 15: 31, 16: 37, 20: 41,
                 24: 53, 30: 61, 31: 67, 33: 67, 34: 71, 36: 73, 37: 79, 39: 79, 40: 83}
        for values in range(1, 41):
            self.assertEqual(prime_of(values), least_prime(values))
            self.assertEqual(prime_of(values), known.get(values, prime_of(values)))

    def test_wrong_numbers_of_values(self):
        for values in (0, -1, 41, 100, 10 ** 30, True, False, None, "2", "", 2.0, (2,), [2]):
            with self.subTest(values), self.assertRaises(BadTree):
                prime_of(values)


class CostTest(unittest.TestCase):
    def test_known_costs(self):
        self.assertEqual(tree_cost(("leaf", 39), 40), 1)
        self.assertEqual(tree_cost(("node", ((0,),), ZERO, ZERO), 1), 18)
        self.assertEqual(tree_cost(("node", AND, ZERO, ZERO), 2), 36)
        self.assertEqual(tree_cost(("node", AND, ("node", AND, ZERO, ZERO), ZERO), 2), 316)
        self.assertEqual(tree_cost(("node", LEFT, ZERO, ZERO), 3), 54)

    def test_mixed_trees(self):
        for values, tree in small_trees():
            self.assertEqual(tree_cost(tree, values), cost_of(tree, values))
        chance = random.Random(12)
        for values in range(1, 41):
            for tree in (full(chance, values, 4), comb(chance, values, 9, "left"), comb(chance, values, 9, "right")):
                self.assertEqual(tree_cost(tree, values), cost_of(tree, values))

    def test_great_costs_are_returned_at_once(self):
        chance = random.Random(13)
        start = time.process_time()
        for side in ("left", "right"):
            for values in (1, 40):
                tree = comb(chance, values, 40, side)
                self.assertEqual(tree_cost(tree, values), cost_of(tree, values))
                with self.assertRaises(TooLong):
                    compile_tree(tree, values)
        self.assertLess(time.process_time() - start, 5)
        self.assertGreater(tree_cost(comb(chance, 40, 40, "left"), 40), 10 ** 80)


class CompileTest(unittest.TestCase):
    def test_form(self):
        for values, tree in small_trees():
            with self.subTest(values=values, tree=reprlib.repr(tree)):
                program = compile_tree(tree, values)
                self.assertIsInstance(program, Program)
                self.assertEqual((program.modulus, program.cells, program.inputs), (least_prime(values), 3, 0))
                self.assertEqual(len(program), cost_of(tree, values))
                # Only what is a program can be made of these steps.
                self.assertEqual(Program(program.modulus, 3, 0, program.steps).steps, program.steps)

    def test_full_memories(self):
        chance = random.Random(14)
        for values, tree in small_trees():
            program = compile_tree(tree, values)
            for memory in memories(chance, program.modulus):
                with self.subTest(values=values, tree=reprlib.repr(tree), memory=memory):
                    changed = (memory[0] + value_of(tree)) % program.modulus
                    self.assertEqual(program.run(memory, []), [changed, memory[1], memory[2]])

    def test_all_memories_of_small_primes(self):
        chance = random.Random(15)
        for values, tree in ((1, comb(chance, 1, 3, "left")), (2, some_node(chance, 2)), (2, full(chance, 2, 3))):
            program = compile_tree(tree, values)
            for memory in product(range(program.modulus), repeat=3):
                changed = (memory[0] + value_of(tree)) % program.modulus
                self.assertEqual(program.run(list(memory), []), [changed, memory[1], memory[2]])

    def test_all_tables_of_two_values(self):
        for entries in product((0, 1), repeat=4):
            for a, b in product((0, 1), repeat=2):
                tree = ("node", (entries[:2], entries[2:]), ("leaf", a), ("leaf", b))
                self.assertEqual(compile_tree(tree, 2).run([4, 2, 3], []), [(4 + entries[2 * a + b]) % 5, 2, 3])

    def test_stopped_behind_each_step_and_called_back(self):
        chance = random.Random(16)
        for values, tree in small_trees():
            if cost_of(tree, values) <= 130:
                program = compile_tree(tree, values)
                memory = [chance.randrange(program.modulus) for _ in range(3)]
                for n in range(len(program) + 1):
                    middle = program.part(n).run(memory, [])
                    self.assertEqual(program.called_back(n).run(middle, []), memory)

    def test_stopped_behind_some_steps_of_great_programs(self):
        chance = random.Random(17)
        for values, tree in ((2, comb(chance, 2, 4, "right")), (9, comb(chance, 9, 3, "left")), (40, some_node(chance, 40))):
            program = compile_tree(tree, values)
            memory = [chance.randrange(program.modulus) for _ in range(3)]
            for n in [0, 1, len(program) - 1, len(program)] + [chance.randrange(len(program)) for _ in range(20)]:
                middle = program.part(n).run(memory, [])
                self.assertEqual(program.called_back(n).run(middle, []), memory)

    def test_the_greatest_costs(self):
        trees = trees_by_cost()
        for many in (19738, 19942):
            program = compile_tree(trees[many], 1)
            self.assertEqual(len(program), many)
            self.assertEqual(program.run([1, 2, 0], []), [1, 2, 0])
        for many in (20010, 20214):
            self.assertEqual(tree_cost(trees[many], 1), many)
            with self.assertRaises(TooLong):
                compile_tree(trees[many], 1)

    def test_great_costs_over_several_values(self):
        chance = random.Random(19)
        small = some_node(chance, 3)
        tree = some_node(chance, 3, small, some_node(chance, 3, small, small))
        self.assertEqual(tree_cost(tree, 3), 16590)
        program = compile_tree(tree, 3)
        self.assertEqual(len(program), 16590)
        self.assertEqual(program.run([6, 5, 2], []), [(6 + value_of(tree)) % 7, 5, 2])
        tree = some_node(chance, 40, left=some_node(chance, 40))
        with self.assertRaises(TooLong):
            compile_tree(tree, 40)

    def test_the_order_of_errors(self):
        chance = random.Random(18)
        deep = comb(chance, 3, 39, "left")
        with self.assertRaises(TooLong):
            compile_tree(deep, 3)
        for tree in (some_node(chance, 3, left=deep, right=("leaf", 3)), some_node(chance, 3, left=deep, right=None)[:3],
                     some_node(chance, 3, left=some_node(chance, 3, left=deep)), list(deep)):
            with self.assertRaises(BadTree):
                compile_tree(tree, 3)
        for values in (0, 41, True, None, 2, 4):
            with self.assertRaises(BadTree):
                compile_tree(deep, values)

    def test_the_tree_stays_and_each_program_is_its_own(self):
        tree = ("node", AND, ("node", XOR, ZERO, ("leaf", 1)), ("leaf", 1))
        before = copy.deepcopy(tree)
        program = compile_tree(tree, 2)
        program.steps.append(None)
        self.assertNotIn(None, compile_tree(tree, 2).steps)
        tree_value(tree, 2)
        tree_cost(tree, 2)
        self.assertEqual(tree, before)


if __name__ == "__main__":
    unittest.main()
