"""Points 7 and 8: what a source is, its value and its cost; BadSource ahead of every other error."""

import copy
import random
import unittest

from brimful.errors import BadMemory, BadSource, BadStep
from brimful.sources import check_source, cost, format_source, meaning, needs
from brimful.three import compile_source
from tests.samples import (GREATEST, SOURCES, all_sources, cost_of, inputs_of, source_of_cost, squares,
                           some_source, value_of)
from tests.wrong import with_lists_for_tuples, with_more_or_less, with_wrong_values

# Each kind of node; no node stands where it could refer to more nodes than it names.
RIGHT = (("const", 7), ("input", 3), ("sum", 0, 1), ("product", 2, 0), ("scaled", 4, 3), ("choose", 0, 4, 2))
BELOW = (("const", 1), ("const", 2))
NO_MODULI = (1, 0, -1, 10 ** 9 + 1, 10 ** 30, True, False, None, "2", 2.0, [2], (2,))


class CheckingTest(unittest.TestCase):
    def accept(self, source):
        with self.subTest(source=repr(source)[:90]):
            self.assertIsNone(check_source(source))

    def reject(self, source):
        """Every function raises BadSource, even if all its other arguments are wrong as well."""
        with self.subTest(source=repr(source)[:90]):
            for ask in (check_source, cost, needs, format_source,
                        lambda wrong: meaning(wrong, 1, None), lambda wrong: meaning(wrong, True, [True]),
                        lambda wrong: meaning(wrong, 5, (0,)), lambda wrong: compile_source(wrong, 0),
                        lambda wrong: compile_source(wrong, 5)):
                with self.assertRaises(BadSource):
                    ask(source)

    def accept_node(self, *nodes):
        for node in nodes:
            self.accept(BELOW + (node,))

    def reject_node(self, *nodes):
        for node in nodes:
            self.reject(BELOW + (node,))
            self.reject(BELOW + (node, ("const", 1)))


class KindsTest(CheckingTest):
    def test_each_kind_of_node(self):
        self.accept(RIGHT)
        for many in range(1, len(RIGHT)):
            self.accept(RIGHT[:many])
        for source in SOURCES:
            self.accept(source)

    def test_number_of_nodes(self):
        self.reject(())
        self.accept((("const", 0),))
        self.accept((("const", 0),) * 200)
        self.reject((("const", 0),) * 201)
        self.accept(squares(200))
        self.reject(squares(201))

    def test_constants(self):
        self.accept_node(("const", 0), ("const", 1), ("const", GREATEST))
        self.reject_node(("const", -1), ("const", 10 ** 9), ("const", 10 ** 30), ("const", 10 ** 4000))

    def test_inputs(self):
        self.accept_node(("input", 0), ("input", 1), ("input", 59))
        self.reject_node(("input", -1), ("input", 60), ("input", 61), ("input", 10 ** 30))

    def test_scales(self):
        self.accept_node(("scaled", 0, 0), ("scaled", GREATEST, 0))
        self.reject_node(("scaled", -1, 0), ("scaled", 10 ** 9, 0), ("scaled", 10 ** 30, 0))

    def test_references(self):
        for at in (0, 1):
            self.accept_node(("sum", at, 0), ("sum", 0, at), ("product", at, 0), ("product", 0, at), ("scaled", 5, at),
                             ("choose", at, 0, 0), ("choose", 0, at, 0), ("choose", 0, 0, at))
        # The node 2 itself, later ones, and none.
        for at in (2, 3, 4, 199, 200, 10 ** 30, -1, -2, -3):
            self.reject_node(("sum", at, 0), ("sum", 0, at), ("product", at, 0), ("product", 0, at), ("scaled", 5, at),
                             ("choose", at, 0, 0), ("choose", 0, at, 0), ("choose", 0, 0, at))

    def test_the_first_node_refers_to_none(self):
        for node in (("sum", 0, 0), ("product", 0, 0), ("scaled", 1, 0), ("choose", 0, 0, 0), ("sum", -1, -1)):
            self.reject((node,))
            self.reject((node, ("const", 1)))

    def test_a_wrong_node_that_nothing_refers_to(self):
        self.reject((("const", 1), ("sum", 0, 1), ("const", 2)))
        self.reject((("const", 1), ("input", 60), ("const", 2)))


class WrongKindsTest(CheckingTest):
    def test_wrong_values_at_every_place(self):
        for wrong in with_wrong_values(RIGHT):
            self.reject(wrong)

    def test_lists_for_tuples(self):
        for wrong in with_lists_for_tuples(RIGHT):
            self.reject(wrong)

    def test_parts_too_many_or_too_few(self):
        for wrong in with_more_or_less(RIGHT):
            self.reject(wrong)

    def test_other_words(self):
        for word in ("Const", "inputs", "sum ", "", "add", "not", "and", "or", "leaf", "prod", b"sum", None, 0, ("sum",)):
            self.reject_node((word, 0), (word, 0, 0), (word, 0, 0, 0), (word,))

    def test_nodes_with_the_parts_of_another_kind(self):
        self.reject_node(("const", 0, 0), ("input", 0, 0), ("sum", 0), ("sum", 0, 0, 0), ("product", 0),
                         ("product", 0, 0, 0), ("scaled", 0), ("scaled", 1, 0, 0), ("choose", 0, 0), ("choose", 0),
                         ("choose", 0, 0, 0, 0))

    def test_what_is_no_tuple(self):
        for wrong in (None, True, 0, 7, "", "const", "7", b"7", {}, {("const", 1): 0}, [("const", 1)], range(1),
                      iter([("const", 1)]), ("const", 1), ("input", 0)):
            self.reject(wrong)


class MeaningTest(unittest.TestCase):
    def check(self, source, modulus, given, value):
        with self.subTest(source=source, modulus=modulus, given=given):
            self.assertEqual(meaning(source, modulus, given), value)

    def test_const(self):
        self.check((("const", 7),), 10, [], 7)
        self.check((("const", 7),), 7, [], 0)
        self.check((("const", 7),), 2, [], 1)
        self.check((("const", GREATEST),), 10 ** 9, [], GREATEST)
        self.check((("const", GREATEST),), 10, [], 9)

    def test_input(self):
        self.check((("input", 0),), 10, [4], 4)
        self.check((("input", 2),), 10, [4, 5, 6], 6)
        self.check((("input", 59),), 10 ** 9, list(range(60)), 59)

    def test_sum(self):
        source = (("input", 0), ("input", 1), ("sum", 0, 1))
        self.check(source, 10, [4, 5], 9)
        self.check(source, 10, [9, 9], 8)
        self.check(source, 2, [1, 1], 0)
        self.check(source, 10 ** 9, [GREATEST, GREATEST], GREATEST - 1)
        self.check((("input", 0), ("sum", 0, 0)), 10, [7], 4)

    def test_product(self):
        source = (("input", 0), ("input", 1), ("product", 0, 1))
        self.check(source, 10, [4, 5], 0)
        self.check(source, 10, [9, 7], 3)
        self.check(source, 2, [1, 1], 1)
        self.check(source, 10 ** 9, [GREATEST, GREATEST], 1)

    def test_scaled(self):
        source = (("input", 0), ("scaled", 13, 0))
        self.check(source, 10, [4], 2)
        self.check(source, 2, [1], 1)
        self.check((("input", 0), ("scaled", 0, 0)), 10, [4], 0)
        self.check((("input", 0), ("scaled", GREATEST, 0)), 10 ** 9, [2], 10 ** 9 - 2)

    def test_choose(self):
        source = (("input", 0), ("input", 1), ("input", 2), ("choose", 0, 1, 2))
        self.check(source, 10, [1, 4, 7], 4)
        self.check(source, 10, [0, 4, 7], 7)
        # 7 + 3 * 4 - 3 * 7
        self.check(source, 10, [3, 4, 7], 8)
        self.check(source, 10 ** 9, [2, 0, GREATEST], 1)
        for chosen in (0, 1):
            for one in (0, 1):
                for other in (0, 1):
                    self.check(source, 2, [chosen, one, other], one if chosen else other)

    def test_several_nodes(self):
        source = (("input", 0), ("const", 2), ("sum", 0, 1), ("product", 2, 2), ("scaled", 3, 3), ("choose", 1, 4, 0))
        # 5 + 2 = 7, 49, 147; 5 + 2 * 147 - 2 * 5
        self.check(source, 1000, [5], 289)
        self.check(source, 10, [5], 9)

    def test_the_last_node_counts(self):
        self.check((("const", 1), ("const", 2), ("const", 3)), 10, [], 3)
        self.check((("const", 1), ("product", 0, 0), ("const", 5)), 10, [], 5)

    def test_against_the_words_of_the_document(self):
        for at, source in enumerate(all_sources()):
            chance = random.Random(at)
            for modulus in (2, 3, 10, 999999937, 10 ** 9):
                given = [chance.randrange(modulus) for _ in range(inputs_of(source))]
                self.check(source, modulus, given, value_of(source, modulus, given))

    def test_a_long_chain_of_squares(self):
        self.check(squares(200), 10 ** 9, [1], 1)
        self.check(squares(200), 10 ** 9, [GREATEST], 1)
        self.check(squares(200), 999999937, [3], pow(3, 2 ** 199, 999999937))

    def test_wrong_inputs(self):
        source = (("input", 1), ("const", 3), ("sum", 0, 1))
        self.assertEqual(meaning(source, 5, [0, 4]), 2)
        for given in ([], [0], [0, 0, 0], (0, 0), None, 0, "00", b"00", {0: 0, 1: 0}, range(2),
                      [0, 5], [5, 0], [-1, 0], [0, -1], [True, 0], [0, False], [None, 0], ["0", 0], [0, 1.0],
                      [0, (0,)], [0, [0]], [0, 10 ** 30]):
            with self.subTest(given=given), self.assertRaises(BadMemory):
                meaning(source, 5, given)
        for given in ([0], (), None, ""):
            with self.subTest(given=given), self.assertRaises(BadMemory):
                meaning((("const", 1),), 5, given)

    def test_inputs_that_the_last_node_does_not_ask_for_are_needed(self):
        source = (("input", 1), ("input", 5), ("product", 0, 0))
        self.assertEqual(meaning(source, 10, [0, 3, 0, 0, 0, 0]), 9)
        for many in (2, 5, 7):
            with self.assertRaises(BadMemory):
                meaning(source, 10, [0] * many)

    def test_a_modulus_that_is_none_is_ahead_of_the_inputs(self):
        for modulus in NO_MODULI:
            for given in ([0, 0], [], None, [True], (0, 0)):
                with self.subTest(modulus=modulus, given=given), self.assertRaises(BadStep):
                    meaning((("input", 1),), modulus, given)
        self.assertEqual(meaning((("input", 1),), 2, [0, 1]), 1)
        self.assertEqual(meaning((("input", 1),), 10 ** 9, [0, 1]), 1)

    def test_nothing_that_is_passed_changes(self):
        for at, source in enumerate(all_sources()):
            given = [k % 2 for k in range(inputs_of(source))]
            before = copy.deepcopy((source, given))
            meaning(source, 10, given)
            self.assertEqual((source, given), before)


class NeedsTest(unittest.TestCase):
    def test_one_more_than_the_greatest(self):
        self.assertEqual(needs((("const", 5),)), 0)
        self.assertEqual(needs((("input", 0),)), 1)
        self.assertEqual(needs((("input", 59),)), 60)
        self.assertEqual(needs((("input", 4), ("input", 2), ("sum", 0, 1))), 5)
        self.assertEqual(needs((("input", 2), ("input", 4), ("scaled", 59, 0))), 5)

    def test_constants_and_references_are_no_inputs(self):
        self.assertEqual(needs((("const", 50), ("sum", 0, 0), ("scaled", 59, 1), ("choose", 2, 2, 2))), 0)

    def test_nodes_that_nothing_refers_to_count(self):
        self.assertEqual(needs((("input", 7), ("const", 1))), 8)

    def test_samples(self):
        for source in all_sources():
            self.assertEqual(needs(source), inputs_of(source))


class CostTest(unittest.TestCase):
    def test_each_kind_of_node(self):
        self.assertEqual(cost((("const", 5),)), 1)
        self.assertEqual(cost((("input", 5),)), 1)
        two = (("input", 0), ("input", 1))
        self.assertEqual(cost(two + (("sum", 0, 1),)), 2)
        self.assertEqual(cost(two + (("product", 0, 1),)), 4)
        self.assertEqual(cost(two + (("scaled", 9, 1),)), 1)
        self.assertEqual(cost(two + (("choose", 0, 1, 0),)), 7)

    def test_the_parts_of_choose_count_differently(self):
        # Costs 1, 2 and 4, so that 1 + 2 + 4 counts twice and the last one a third time.
        parts = (("const", 1), ("sum", 0, 0), ("product", 0, 0))
        self.assertEqual(cost(parts + (("choose", 0, 1, 2),)), 18)
        self.assertEqual(cost(parts + (("choose", 2, 1, 0),)), 15)
        self.assertEqual(cost(parts + (("choose", 2, 0, 1),)), 16)

    def test_nodes_that_are_referred_to_several_times_count_each_time(self):
        source = (("input", 0), ("product", 0, 0), ("sum", 1, 1), ("product", 2, 1), ("scaled", 3, 3), ("sum", 4, 4))
        self.assertEqual([cost(source[:many]) for many in range(1, 7)], [1, 4, 8, 24, 24, 48])

    def test_nodes_that_nothing_refers_to_do_not_count(self):
        self.assertEqual(cost((("input", 0), ("product", 0, 0), ("const", 3))), 1)

    def test_samples(self):
        for source in all_sources():
            self.assertEqual(cost(source), cost_of(source))
        for many in (1, 2, 3, 1000, 19999, 20000, 20001):
            self.assertEqual(cost(source_of_cost(many)), many)

    def test_chains_that_double_the_cost_at_each_node(self):
        doubled = (("input", 0),) + tuple(("sum", at, at) for at in range(199))
        self.assertEqual(cost(doubled), 2 ** 199)
        self.assertEqual(cost(squares(198)), 4 ** 197)
        self.assertEqual(cost(squares(200)), 4 ** 199)
        chosen = (("input", 0),) + tuple(("choose", at, at, at) for at in range(199))
        self.assertEqual(cost(chosen), 7 ** 199)

    def test_long_rows_that_add_nothing(self):
        self.assertEqual(cost((("input", 0),) + tuple(("scaled", 2, at) for at in range(199))), 1)

    def test_what_is_returned_is_an_integer(self):
        for source in (SOURCES[0], some_source(1, 9)):
            self.assertIs(type(cost(source)), int)
            self.assertIs(type(needs(source)), int)
            self.assertIs(type(meaning(source, 10, [1] * inputs_of(source))), int)


class InterfaceTest(unittest.TestCase):
    def test_functions_are_defined_in_their_file(self):
        for function in (check_source, meaning, cost, needs, format_source):
            self.assertEqual(function.__module__, "brimful.sources")


if __name__ == "__main__":
    unittest.main()
