"""Points 12 to 14 and 26: Boolean sources, words of permutations of five points, and their effect."""

import copy
import random
import time
import unittest
from itertools import permutations

from brimful.errors import BadMemory, BadSource, BadWord, TooLong
from brimful.points import check_boolean, compile_word, effect, length, truth
from tests.samples import (BOOLEANS, all_bits, all_booleans, boolean_of_length, doubled_ands, inputs_of, is_true,
                           length_of)
from tests.wrong import with_lists_for_tuples, with_more_or_less, with_wrong_values

SAME = (0, 1, 2, 3, 4)
NEXT = (1, 2, 3, 4, 0)
RIGHT = (("input", 3), ("not", 0), ("and", 0, 1), ("or", 2, 0))
BELOW = (("input", 0), ("input", 1))
WORD = [(0, SAME, NEXT), (3, (4, 3, 2, 1, 0), (1, 0, 2, 4, 3))]
NO_BITS = (None, 0, "", "01", b"01", (), (True, False), {0: True}, range(2), True, [0], [1, 0], [True, 1], [None],
           [True, "False"], [[True]], [True, False, 0.0])


def goes_through_all(permutation):
    seen, point = [], 0
    while point not in seen:
        seen.append(point)
        point = permutation[point]
    return len(seen) == 5


PERMUTATIONS = list(permutations(range(5)))
CYCLES = [permutation for permutation in PERMUTATIONS if goes_through_all(permutation)]
# One fixes a point, or goes round in two rings, and so on.
NO_CYCLES = [permutation for permutation in PERMUTATIONS if not goes_through_all(permutation)]
NO_PERMUTATIONS = ((), (0,), (0, 1, 2, 3), (1, 2, 3, 0), (1, 2, 3, 4, 0, 5), (1, 2, 3, 4, 4), (1, 2, 3, 4, 5), (1, 2, 3, 4, -1),
                   (2, 3, 4, 5, 1), (True, 2, 3, 4, 0), (1, 2, 3, 4, False), (1, 2, 3, 4, None), (1, 2, 3, 4, "0"),
                   (1, 2, 3, 4, 0.0), (1, 2, 3, 4, (0,)), [1, 2, 3, 4, 0], "12340", b"12340", None, 0, True, {}, range(5),
                   (1, 2, 3, 4, 0, 0), (0, 0, 0, 0, 0), ((1, 2, 3, 4, 0),), (1, 2, 3, 4, [0]))


class CheckingTest(unittest.TestCase):
    def accept(self, source):
        with self.subTest(source=repr(source)[:90]):
            self.assertIsNone(check_boolean(source))

    def reject(self, source):
        """Every function raises BadSource, even if all its other arguments are wrong as well."""
        with self.subTest(source=repr(source)[:90]):
            for ask in (check_boolean, length, lambda wrong: truth(wrong, None), lambda wrong: truth(wrong, []),
                        lambda wrong: truth(wrong, [True] * 60), lambda wrong: compile_word(wrong, SAME),
                        lambda wrong: compile_word(wrong, None), lambda wrong: compile_word(wrong, NEXT)):
                with self.assertRaises(BadSource):
                    ask(source)

    def accept_node(self, *nodes):
        for node in nodes:
            self.accept(BELOW + (node,))

    def reject_node(self, *nodes):
        for node in nodes:
            self.reject(BELOW + (node,))
            self.reject(BELOW + (node, ("input", 1)))

    def test_each_kind_of_node(self):
        self.accept(RIGHT)
        for many in range(1, len(RIGHT)):
            self.accept(RIGHT[:many])
        for source in BOOLEANS:
            self.accept(source)

    def test_number_of_nodes(self):
        self.reject(())
        self.accept((("input", 0),) * 200)
        self.reject((("input", 0),) * 201)
        self.accept(doubled_ands(200))
        self.reject(doubled_ands(201))

    def test_inputs(self):
        self.accept_node(("input", 0), ("input", 1), ("input", 59))
        self.reject_node(("input", -1), ("input", 60), ("input", 61), ("input", 10 ** 30))

    def test_references(self):
        for at in (0, 1):
            self.accept_node(("not", at), ("and", at, 0), ("and", 0, at), ("or", at, 0), ("or", 0, at))
        # The node 2 itself, later ones, and none.
        for at in (2, 3, 4, 199, 200, 10 ** 30, -1, -2, -3):
            self.reject_node(("not", at), ("and", at, 0), ("and", 0, at), ("or", at, 0), ("or", 0, at))

    def test_the_first_node_refers_to_none(self):
        for node in (("not", 0), ("and", 0, 0), ("or", 0, 0), ("not", -1)):
            self.reject((node,))
            self.reject((node, ("input", 1)))

    def test_a_wrong_node_that_nothing_refers_to(self):
        self.reject((("input", 1), ("and", 0, 1), ("input", 2)))
        self.reject((("input", 1), ("input", 60), ("input", 2)))

    def test_wrong_values_at_every_place(self):
        for wrong in with_wrong_values(RIGHT):
            self.reject(wrong)

    def test_lists_for_tuples(self):
        for wrong in with_lists_for_tuples(RIGHT):
            self.reject(wrong)

    def test_parts_too_many_or_too_few(self):
        for wrong in with_more_or_less(RIGHT):
            self.reject(wrong)
        self.reject_node(("not", 0, 0), ("not",), ("and", 0), ("and", 0, 0, 0), ("or", 0), ("or", 0, 0, 0), ("input", 0, 0))

    def test_other_words(self):
        for word in ("Not", "inputs", "and ", "", "xor", "nand", "const", "sum", "product", b"and", None, 0):
            self.reject_node((word, 0), (word, 0, 0), (word,))
        self.reject_node(("const", 1), ("sum", 0, 0), ("product", 0, 0), ("scaled", 1, 0), ("choose", 0, 0, 0))

    def test_what_is_no_tuple(self):
        for wrong in (None, True, False, 0, "", "input", b"7", {}, [("input", 1)], range(1), iter([("input", 1)]),
                      ("input", 1), ("not", 0)):
            self.reject(wrong)


class TruthTest(unittest.TestCase):
    def test_each_kind_of_node(self):
        for a in (False, True):
            self.assertIs(truth((("input", 0),), [a]), a)
            self.assertIs(truth((("input", 1),), [not a, a]), a)
            self.assertIs(truth((("input", 0), ("not", 0)), [a]), not a)
            for b in (False, True):
                self.assertIs(truth(BELOW + (("and", 0, 1),), [a, b]), a and b)
                self.assertIs(truth(BELOW + (("or", 0, 1),), [a, b]), a or b)

    def test_all_bits(self):
        for source in all_booleans():
            for bits in all_bits(inputs_of(source)):
                self.assertIs(truth(source, bits), is_true(source, bits))

    def test_the_last_node_counts(self):
        self.assertIs(truth((("input", 0), ("not", 0), ("input", 1)), [False, False]), False)

    def test_long_chains(self):
        self.assertIs(truth(doubled_ands(200), [True]), True)
        self.assertIs(truth(doubled_ands(200), [False]), False)

    def test_more_bits_than_are_named(self):
        self.assertIs(truth((("input", 1),), [False, True, False]), True)
        self.assertIs(truth((("input", 0),), [True] * 200), True)

    def test_bits_that_lack_one(self):
        for many in range(4):
            with self.assertRaises(BadMemory):
                truth((("input", 3),), [True] * many)
        # Named by a node of which the last one asks nothing.
        with self.assertRaises(BadMemory):
            truth((("input", 0), ("input", 4), ("not", 0)), [True] * 4)
        self.assertIs(truth((("input", 0), ("input", 4), ("not", 0)), [True] * 5), False)
        with self.assertRaises(BadMemory):
            truth((("input", 0),), [])

    def test_bits_of_another_kind(self):
        for bits in NO_BITS:
            with self.subTest(bits=bits), self.assertRaises(BadMemory):
                truth((("input", 0),), bits)
        with self.assertRaises(BadMemory):
            truth((("input", 0),), [True, False, 1])
        with self.assertRaises(BadMemory):
            truth((("input", 0), ("input", 1), ("or", 0, 1)), [True, None])

    def test_source_and_bits_stay(self):
        for source in all_booleans():
            bits = [k % 2 == 0 for k in range(inputs_of(source))]
            before = copy.deepcopy((source, bits))
            truth(source, bits)
            self.assertEqual((source, bits), before)


class LengthTest(unittest.TestCase):
    def test_each_kind_of_node(self):
        self.assertEqual(length((("input", 7),)), 1)
        self.assertEqual(length((("input", 7), ("not", 0))), 1)
        self.assertEqual(length(BELOW + (("and", 0, 1),)), 4)
        self.assertEqual(length(BELOW + (("or", 0, 1),)), 4)
        self.assertEqual(length(BELOW + (("or", 0, 1), ("not", 2), ("and", 3, 0))), 10)

    def test_nodes_that_are_referred_to_several_times_count_each_time(self):
        source = (("input", 0), ("and", 0, 0), ("not", 1), ("or", 2, 1), ("and", 3, 0))
        self.assertEqual([length(source[:many]) for many in range(1, 6)], [1, 4, 4, 16, 34])

    def test_nodes_that_nothing_refers_to_do_not_count(self):
        self.assertEqual(length((("input", 0), ("and", 0, 0), ("not", 0))), 1)

    def test_samples(self):
        for source in all_booleans():
            self.assertEqual(length(source), length_of(source))
        for many in (4, 10, 16, 22, 100, 19996, 20002):
            self.assertEqual(length(boolean_of_length(many)), many)

    def test_long_chains(self):
        self.assertEqual(length(doubled_ands(198)), 4 ** 197)
        self.assertEqual(length(doubled_ands(200)), 4 ** 199)
        self.assertEqual(length((("input", 0),) + tuple(("not", at) for at in range(199))), 1)


class CompileTest(unittest.TestCase):
    def check_form(self, word, source):
        named = {node[1] for node in source if node[0] == "input"}
        self.assertIs(type(word), list)
        self.assertEqual(len(word), length_of(source))
        for triple in word:
            self.assertIs(type(triple), tuple)
            self.assertEqual(len(triple), 3)
            self.assertIs(type(triple[0]), int)
            self.assertIn(triple[0], named)
            for permutation in triple[1:]:
                self.assertIs(type(permutation), tuple)
                self.assertIn(permutation, PERMUTATIONS)

    def check_effect(self, word, source, cycle, bits):
        sent = cycle if is_true(source, bits) else SAME
        self.assertEqual(tuple(effect(word, bits, point) for point in range(5)), sent)

    def test_form(self):
        for at, source in enumerate(all_booleans()):
            with self.subTest(source=source):
                self.check_form(compile_word(source, CYCLES[at % 24]), source)

    def test_every_point_and_all_bits(self):
        for at, source in enumerate(all_booleans()):
            for cycle in (NEXT, CYCLES[at % 24], CYCLES[-1 - at % 24]):
                word = compile_word(source, cycle)
                for bits in all_bits(inputs_of(source)):
                    with self.subTest(source=source, cycle=cycle, bits=bits):
                        self.check_effect(word, source, cycle, bits)

    def test_every_cycle(self):
        self.assertEqual(len(CYCLES), 24)
        for source in BOOLEANS[:13]:
            for cycle in CYCLES:
                word = compile_word(source, cycle)
                self.check_form(word, source)
                for bits in all_bits(inputs_of(source)):
                    self.check_effect(word, source, cycle, bits)

    def test_long_rows_of_nots(self):
        for many in (198, 199):
            source = (("input", 0),) + tuple(("not", at) for at in range(many))
            word = compile_word(source, NEXT)
            self.assertEqual(len(word), 1)
            for bits in ([False], [True]):
                self.check_effect(word, source, NEXT, bits)

    def test_long_rows_below_many_triples_take_no_long_time(self):
        row = [("input", 0)] + [("not", at) for at in range(191)]
        source = tuple(row + [("and", at, at) for at in range(191, 198)])
        start = time.process_time()
        word = compile_word(source, NEXT)
        self.assertLess(time.process_time() - start, 5)
        self.assertEqual(len(word), 4 ** 7)
        for bits in ([False], [True]):
            sent = NEXT if bits == [False] else SAME
            self.assertEqual(tuple(effect(word, bits, point) for point in range(5)), sent)

    def test_the_greatest_length(self):
        # No source has a length between these two: all are 1 more than a multiple of 3, and even beyond 1.
        source = boolean_of_length(19996)
        word = compile_word(source, NEXT)
        self.assertEqual(len(word), 19996)
        self.check_effect(word, source, NEXT, [True, False])
        self.check_effect(word, source, NEXT, [False, True])
        with self.assertRaises(TooLong):
            compile_word(boolean_of_length(20002), NEXT)

    def test_great_lengths_are_answered_at_once(self):
        start = time.process_time()
        for nodes in (9, 198, 200):
            with self.assertRaises(TooLong):
                compile_word(doubled_ands(nodes), NEXT)
        self.assertLess(time.process_time() - start, 2)
        self.assertEqual(len(compile_word(doubled_ands(8), NEXT)), 4 ** 7)

    def test_the_order_of_errors(self):
        self.assertEqual(len(NO_CYCLES), 96)
        for cycle in (*NO_CYCLES, *NO_PERMUTATIONS):
            for source in ((("input", 0),), doubled_ands(198)):
                with self.subTest(cycle=cycle), self.assertRaises(BadWord):
                    compile_word(source, cycle)
            for source in ((), None, doubled_ands(201), [("input", 0)], doubled_ands(198) + (("and", 0, 198),)):
                with self.subTest(cycle=cycle), self.assertRaises(BadSource):
                    compile_word(source, cycle)

    def test_source_and_cycle_stay_and_each_word_is_its_own(self):
        source = BOOLEANS[-2]
        before = copy.deepcopy(source)
        word = compile_word(source, NEXT)
        self.assertEqual(source, before)
        word.append(None)
        self.assertNotIn(None, compile_word(source, NEXT))


class EffectTest(unittest.TestCase):
    def test_one_triple(self):
        for point in range(5):
            self.assertEqual(effect([(0, SAME, NEXT)], [True], point), (point + 1) % 5)
            self.assertEqual(effect([(0, SAME, NEXT)], [False], point), point)
            self.assertEqual(effect([(1, (4, 3, 2, 1, 0), NEXT)], [True, False], point), 4 - point)

    def test_several_triples_in_order(self):
        first, second = (1, 0, 2, 3, 4), (0, 2, 1, 3, 4)
        word = [(0, SAME, first), (1, SAME, second)]
        self.assertEqual([effect(word, [True, True], point) for point in range(5)], [2, 0, 1, 3, 4])
        self.assertEqual([effect(word[::-1], [True, True], point) for point in range(5)], [1, 2, 0, 3, 4])
        self.assertEqual([effect(word, [True, False], point) for point in range(5)], [1, 0, 2, 3, 4])
        self.assertEqual([effect(word, [False, True], point) for point in range(5)], [0, 2, 1, 3, 4])

    def test_against_the_words_of_the_document(self):
        chance = random.Random(4)
        for _ in range(100):
            word = [(chance.randrange(60), chance.choice(PERMUTATIONS), chance.choice(PERMUTATIONS)) for _ in range(8)]
            bits = [chance.random() < 0.5 for _ in range(60)]
            for point in range(5):
                at = point
                for k, zero, one in word:
                    at = one[at] if bits[k] else zero[at]
                self.assertEqual(effect(word, bits, point), at)

    def test_the_empty_word(self):
        for point in range(5):
            for bits in ([], [True], [False] * 100):
                self.assertEqual(effect([], bits, point), point)

    def test_the_longest_word(self):
        word = [(59, SAME, NEXT)] * 20000
        self.assertEqual(effect(word[1:], [True] * 60, 3), 2)
        self.assertEqual(effect(word, [True] * 60, 3), 3)
        for bits in ([True] * 60, [], None):
            with self.assertRaises(BadWord):
                effect(word + word[:1], bits, 3)

    def test_points(self):
        for point in (-1, 5, 6, 10 ** 30, True, False, None, "0", 0.0, (0,), [0], SAME):
            for bits in ([True] * 4, [], None):
                with self.subTest(point=point), self.assertRaises(BadWord):
                    effect(WORD, bits, point)
            with self.subTest(point=point), self.assertRaises(BadWord):
                effect([], [], point)

    def reject(self, *words):
        for word in words:
            for bits in ([True] * 60, [], None, (True,) * 60):
                with self.subTest(word=word, bits=bits), self.assertRaises(BadWord):
                    effect(word, bits, 0)
            with self.subTest(word=word), self.assertRaises(BadWord):
                effect(word, [True] * 60, 5)

    def test_indexes_of_bits(self):
        self.assertEqual(effect([(59, SAME, NEXT)], [True] * 60, 0), 1)
        for k in (60, 61, -1, 10 ** 30, True, False, None, "0", 0.0):
            self.reject([(k, SAME, NEXT)])

    def test_what_is_no_permutation(self):
        for wrong in NO_PERMUTATIONS:
            self.reject([(0, wrong, NEXT)], [(0, SAME, wrong)], WORD + [(0, SAME, wrong)])
        for right in PERMUTATIONS:
            self.assertEqual(effect([(0, right, NEXT)], [False], 2), right[2])

    def test_wrong_words(self):
        for wrong in with_wrong_values(WORD):
            self.reject(wrong)
        for wrong in with_lists_for_tuples(WORD):
            self.reject(wrong)
        for wrong in with_more_or_less(WORD):
            self.reject(wrong)
        self.reject(None, True, 0, "", "word", b"", (), {}, range(0), iter([]), [[]], [()], [None], WORD[0])

    def test_bits_of_another_kind_or_too_few(self):
        self.assertEqual(effect(WORD, [True, False, False, True], 0), 0)
        for bits in NO_BITS:
            with self.subTest(bits=bits), self.assertRaises(BadMemory):
                effect([(0, SAME, NEXT)], bits, 0)
            with self.subTest(bits=bits), self.assertRaises(BadMemory):
                effect([], bits, 0)
        for many in range(4):
            with self.assertRaises(BadMemory):
                effect(WORD, [True] * many, 0)
        for wrong in (0, 1, None, "True", (True,)):
            for at in range(5):
                bits = [True] * 5
                bits[at] = wrong
                with self.subTest(bits=bits), self.assertRaises(BadMemory):
                    effect(WORD, bits, 0)

    def test_word_and_bits_stay(self):
        word, bits = copy.deepcopy(WORD), [True, False, True, False]
        effect(word, bits, 4)
        self.assertEqual((word, bits), (WORD, [True, False, True, False]))


class InterfaceTest(unittest.TestCase):
    def test_functions_are_defined_in_their_file(self):
        for function in (check_boolean, truth, length, compile_word, effect):
            self.assertEqual(function.__module__, "brimful.points")


if __name__ == "__main__":
    unittest.main()
