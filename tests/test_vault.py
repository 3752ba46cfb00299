"""Points 23, 24 and 26: lending the cells of a vault."""

import copy
import random
import unittest

from brimful.errors import BadMemory, BadStep, BadTicket, Busy
from brimful.programs import Program
from brimful.three import compile_source
from brimful.trees import compile_tree
from brimful.vault import Vault

SOURCE = (("input", 0), ("input", 1), ("product", 0, 1))
NO_TICKETS = (-1, 10 ** 30, True, False, None, "0", "", 0.0, 1.0, (0,), [0], {})


def one_more(modulus=10, cells=1, many=1):
    """A program that adds 1 to its cell 0 in each of its steps."""
    return Program(modulus, cells, 0, [("add", 0, 1, ())] * many)


class VaultTest(unittest.TestCase):
    def reject(self, error, function, *arguments):
        with self.subTest(function=function.__name__, arguments=arguments), self.assertRaises(error):
            function(*arguments)


class MakingTest(VaultTest):
    def test_memory(self):
        for memory in ([0], [9], [0] * 200, list(range(10)) * 20):
            self.assertEqual(Vault(memory, 10).memory, memory)
        for memory in ([], [0] * 201, (0,), None, 0, True, "0", {0: 0}, b"0", range(1)):
            self.reject(BadMemory, Vault, memory, 10)
        for wrong in (-1, 10, 10 ** 30, True, False, None, "1", 1.0, [1], (1,)):
            for memory in ([wrong], [0, wrong], [wrong, 0], [0] * 199 + [wrong]):
                self.reject(BadMemory, Vault, memory, 10)

    def test_modulus(self):
        for modulus in (2, 3, 10 ** 9):
            self.assertEqual(Vault([0, 1, modulus - 1], modulus).memory, [0, 1, modulus - 1])
            self.reject(BadMemory, Vault, [0, modulus], modulus)
        for modulus in (1, 0, -1, 10 ** 9 + 1, 10 ** 30, True, False, None, "2", 2.0, [2], (2,)):
            self.reject(BadMemory, Vault, [0], modulus)

    def test_the_memory_is_its_own(self):
        memory = [1, 2, 3]
        vault = Vault(memory, 10)
        memory[0] = 9
        self.assertEqual(vault.memory, [1, 2, 3])
        vault.memory[0] = 9
        vault.memory.append(4)
        self.assertEqual(vault.memory, [1, 2, 3])
        self.assertIsNot(vault.memory, vault.memory)
        self.assertIs(type(vault.memory), list)

    def test_interface(self):
        self.assertIsInstance(vars(Vault)["memory"], property)
        for name in ("__init__", "lend", "advance", "answer", "recall", "open_loans"):
            self.assertIn(name, vars(Vault))


class LendTest(VaultTest):
    def setUp(self):
        self.vault = Vault([1, 2, 3, 4], 10)
        self.program = compile_source(SOURCE, 10)

    def test_tickets(self):
        self.assertEqual(self.vault.open_loans(), [])
        for ticket in range(5):
            self.assertEqual(self.vault.lend(one_more(), [ticket % 4], []), ticket)
            self.assertEqual(self.vault.open_loans(), list(range(ticket + 1)))
        self.vault.recall(4)
        self.vault.recall(2)
        self.assertEqual(self.vault.open_loans(), [0, 1, 3])
        self.assertEqual(self.vault.lend(one_more(), [2], []), 5)
        self.assertEqual(self.vault.open_loans(), [0, 1, 3, 5])

    def test_lending_changes_nothing(self):
        self.vault.lend(self.program, [3, 0, 1], [5, 6])
        self.assertEqual(self.vault.memory, [1, 2, 3, 4])

    def test_another_modulus(self):
        for modulus in (2, 5, 11, 100):
            self.reject(BadStep, self.vault.lend, compile_source(SOURCE, modulus), [0, 1, 2], [1, 1])
            # The modulus comes ahead of the places and the inputs.
            self.reject(BadStep, self.vault.lend, compile_source(SOURCE, modulus), [0, 1], [1])
            self.reject(BadStep, self.vault.lend, compile_source(SOURCE, modulus), None, None)

    def test_no_programs(self):
        for program in (None, 0, [], ("add", 0, 1, ()), [("add", 0, 1, ())]):
            self.reject(BadStep, self.vault.lend, program, [0], [])
        self.assertEqual(self.vault.open_loans(), [])

    def test_places(self):
        for places in ([], [0], [0, 1], [0, 1, 2, 3], [0, 1, 1], [0, 0, 0], [2, 1, 2], [0, 1, 4], [-1, 1, 2], [10 ** 30, 1, 2],
                       (0, 1, 2), None, 0, True, "012", {0: 0, 1: 1, 2: 2}, range(3)):
            self.reject(BadMemory, self.vault.lend, self.program, places, [1, 1])
        for wrong in (True, False, None, "1", 1.0, [1], (1,)):
            for at in range(3):
                places = [0, 2, 3]
                places[at] = wrong
                self.reject(BadMemory, self.vault.lend, self.program, places, [1, 1])
        for ticket, places in enumerate(([0, 1, 2], [3, 2, 1], [3, 0, 2])):
            self.assertEqual(self.vault.lend(self.program, places, [1, 1]), ticket)

    def test_inputs(self):
        for given in ([], [1], [1, 1, 1], (1, 1), None, 0, "11", {0: 1, 1: 1}, [1, 10], [-1, 1], [True, 1], [1, False],
                      [None, 1], ["1", 1], [1.0, 1], [[1], 1]):
            self.reject(BadMemory, self.vault.lend, self.program, [0, 1, 2], given)
        self.assertEqual(self.vault.lend(self.program, [0, 1, 2], [0, 9]), 0)

    def test_a_refused_loan_gets_no_ticket(self):
        self.reject(BadStep, self.vault.lend, one_more(5), [0], [])
        self.reject(BadMemory, self.vault.lend, one_more(), [4], [])
        self.reject(BadMemory, self.vault.lend, one_more(), [0], [1])
        self.assertEqual(self.vault.open_loans(), [])
        self.assertEqual(self.vault.lend(one_more(), [0], []), 0)
        self.reject(BadMemory, self.vault.lend, one_more(), [0, 1], [])
        self.assertEqual(self.vault.lend(one_more(), [1], []), 1)
        self.assertEqual(self.vault.open_loans(), [0, 1])
        self.assertEqual(self.vault.advance(0, 1), 1)

    def test_the_greatest_vault_and_program(self):
        vault = Vault([7] * 200, 10 ** 9)
        program = Program(10 ** 9, 60, 60, [("add", 0, 1, (("cell", 59), ("input", 59)))] * 20000)
        ticket = vault.lend(program, list(range(199, 139, -1)), [5] * 60)
        self.assertEqual(vault.advance(ticket, 10 ** 30), 20000)
        self.assertEqual(vault.memory, [7] * 199 + [7 + 35 * 20000])
        self.assertEqual(vault.answer(ticket), 35 * 20000)
        self.assertEqual(vault.recall(ticket), 20000)
        self.assertEqual(vault.memory, [7] * 200)

    def test_lists_that_are_changed_later(self):
        places, given = [3, 0, 1], [5, 6]
        program = compile_source(SOURCE, 10)
        ticket = self.vault.lend(program, places, given)
        places[0], given[0] = 2, 0
        places.append(3)
        program.steps.reverse()
        program.steps.pop()
        self.assertEqual(self.vault.advance(ticket, 4), 4)
        self.assertEqual((self.vault.answer(ticket), self.vault.memory), (0, [1, 2, 3, 4]))
        self.assertEqual((places, given), ([2, 0, 1, 3], [0, 6]))
        self.vault.open_loans().append(7)
        self.vault.open_loans().clear()
        self.assertEqual(self.vault.open_loans(), [0])
        self.assertEqual(self.vault.recall(ticket), 4)

    def test_arguments_stay(self):
        places, given = [3, 0, 1], [5, 6]
        before = copy.deepcopy(self.program.steps)
        ticket = self.vault.lend(self.program, places, given)
        self.vault.advance(ticket, 2)
        self.vault.recall(ticket)
        self.assertEqual((places, given, self.program.steps), ([3, 0, 1], [5, 6], before))


class WorkTest(VaultTest):
    def test_the_steps_on_the_places(self):
        vault = Vault([1, 2, 3, 4], 10)
        program = Program(10, 3, 1, [("add", 0, 1, (("cell", 1), ("input", 0))), ("swap", 1, 2), ("scale", 0, 3)])
        ticket = vault.lend(program, [2, 0, 3], [6])
        for memory in ([1, 2, 9, 4], [4, 2, 9, 1], [4, 2, 7, 1]):
            self.assertEqual(vault.advance(ticket, 1), 1)
            self.assertEqual(vault.memory, memory)
        self.assertEqual(vault.answer(ticket), 4)
        self.assertEqual(vault.recall(ticket), 3)
        self.assertEqual(vault.memory, [1, 2, 3, 4])

    def test_how_many_steps_are_performed(self):
        vault = Vault([0], 100)
        ticket = vault.lend(one_more(100, many=10), [0], [])
        for most, many, content in ((0, 0, 0), (3, 3, 3), (0, 0, 3), (1, 1, 4), (6, 6, 10), (1, 0, 10), (0, 0, 10), (99, 0, 10)):
            self.assertEqual(vault.advance(ticket, most), many)
            self.assertEqual(vault.memory, [content])
        self.assertEqual(vault.recall(ticket), 10)
        ticket = vault.lend(one_more(100, many=10), [0], [])
        self.assertEqual(vault.advance(ticket, 4), 4)
        self.assertEqual(vault.advance(ticket, 10), 6)
        self.assertEqual(vault.advance(ticket, 10), 0)
        other = Vault([0], 100)
        self.assertEqual(other.advance(other.lend(one_more(100, many=10), [0], []), 11), 10)

    def test_less_than_no_steps(self):
        vault = Vault([0], 100)
        ticket = vault.lend(one_more(100, many=10), [0], [])
        for done in (0, 4):
            self.assertEqual(vault.advance(ticket, done), done)
            for most in (-1, -3, -20):
                self.assertEqual(vault.advance(ticket, most), 0)
                self.assertEqual(vault.memory, [done])
        self.assertEqual(vault.recall(ticket), 4)

    def test_answer_only_behind_the_last_step(self):
        vault = Vault([7, 8, 9], 10)
        program = compile_source(SOURCE, 10)
        ticket = vault.lend(program, [1, 2, 0], [3, 7])
        for _ in range(len(program)):
            self.reject(Busy, vault.answer, ticket)
            vault.advance(ticket, 1)
        for _ in range(2):
            self.assertEqual(vault.answer(ticket), 1)
        self.assertEqual(vault.memory, [7, 9, 9])
        vault.recall(ticket)
        self.assertEqual(vault.memory, [7, 8, 9])

    def test_a_program_without_steps(self):
        vault = Vault([7], 10)
        ticket = vault.lend(Program(10, 1, 0, []), [0], [])
        self.assertEqual(vault.answer(ticket), 0)
        self.assertEqual(vault.advance(ticket, 5), 0)
        self.assertEqual(vault.recall(ticket), 0)

    def test_answers_of_programs_that_are_not_clean(self):
        vault = Vault([7, 3], 10)
        ticket = vault.lend(Program(10, 2, 0, [("swap", 0, 1)]), [0, 1], [])
        vault.advance(ticket, 1)
        self.assertEqual((vault.answer(ticket), vault.memory), (6, [3, 7]))
        self.assertEqual(vault.recall(ticket), 1)
        self.assertEqual(vault.memory, [7, 3])

    def test_recall_at_each_point(self):
        tree = ("node", ((0, 1), (1, 0)), ("leaf", 1), ("leaf", 0))
        for program, given in ((compile_source(SOURCE, 5), [3, 4]), (compile_tree(tree, 2), [])):
            for n in range(len(program) + 1):
                vault = Vault([4, 1, 3, 2], 5)
                ticket = vault.lend(program, [3, 1, 0], given)
                self.assertEqual(vault.advance(ticket, n), n)
                middle = program.part(n).run([2, 1, 4], given)
                self.assertEqual(vault.memory, [middle[2], middle[1], 3, middle[0]])
                self.assertEqual(vault.recall(ticket), n)
                self.assertEqual(vault.memory, [4, 1, 3, 2])
                self.assertEqual(vault.open_loans(), [])

    def test_tree_and_its_answer(self):
        tree = ("node", ((0, 1), (1, 0)), ("leaf", 1), ("leaf", 0))
        vault = Vault([4, 1, 3], 5)
        ticket = vault.lend(compile_tree(tree, 2), [2, 0, 1], [])
        self.assertEqual(vault.advance(ticket, 36), 36)
        self.assertEqual((vault.answer(ticket), vault.memory), (1, [4, 1, 4]))

    def test_one_program_lent_several_times(self):
        vault = Vault([0, 0], 10)
        program = one_more(many=2)
        first, second = vault.lend(program, [0], []), vault.lend(program, [1], [])
        vault.advance(first, 1)
        vault.advance(second, 2)
        self.assertEqual(vault.memory, [1, 2])
        self.reject(Busy, vault.answer, first)
        self.assertEqual(vault.answer(second), 2)
        third = vault.lend(program, [0], [])
        vault.advance(third, 2)
        self.assertEqual((vault.answer(third), vault.memory), (2, [3, 2]))
        self.assertEqual([vault.recall(ticket) for ticket in (third, second, first)], [2, 2, 1])
        self.assertEqual(vault.memory, [0, 0])


class TicketTest(VaultTest):
    def check_no_ticket(self, vault, ticket):
        before = vault.memory, vault.open_loans()
        self.reject(BadTicket, vault.advance, ticket, 1)
        self.reject(BadTicket, vault.advance, ticket, 0)
        self.reject(BadTicket, vault.answer, ticket)
        self.reject(BadTicket, vault.recall, ticket)
        self.assertEqual((vault.memory, vault.open_loans()), before)

    def test_tickets_of_no_loan(self):
        vault = Vault([1, 2], 10)
        for ticket in NO_TICKETS + (0, 1):
            self.check_no_ticket(vault, ticket)
        vault.lend(one_more(), [0], [])
        vault.lend(one_more(), [0], [])
        for ticket in NO_TICKETS + (2, 3):
            self.check_no_ticket(vault, ticket)

    def test_recalled_loans(self):
        vault = Vault([1, 2], 10)
        for ticket in range(3):
            vault.lend(one_more(), [ticket % 2], [])
        vault.recall(1)
        self.check_no_ticket(vault, 1)
        vault.recall(2)
        self.check_no_ticket(vault, 2)
        self.assertEqual(vault.advance(0, 1), 1)
        vault.recall(0)
        for ticket in range(4):
            self.check_no_ticket(vault, ticket)
        self.assertEqual(vault.lend(one_more(), [0], []), 3)

    def test_a_recalled_loan_is_no_ticket_though_it_would_be_blocked(self):
        vault = Vault([1], 10)
        first = vault.lend(one_more(), [0], [])
        vault.recall(first)
        vault.lend(one_more(), [0], [])
        self.check_no_ticket(vault, first)


class BlockedTest(VaultTest):
    def check_blocked(self, vault, ticket):
        before = vault.memory, vault.open_loans()
        self.reject(Busy, vault.advance, ticket, 1)
        self.reject(Busy, vault.advance, ticket, 0)
        self.reject(Busy, vault.answer, ticket)
        self.reject(Busy, vault.recall, ticket)
        self.assertEqual((vault.memory, vault.open_loans()), before)

    def check_free(self, vault, ticket):
        self.assertEqual(vault.advance(ticket, 0), 0)

    def test_shared_cells(self):
        vault = Vault([1, 2, 3], 10)
        first = vault.lend(one_more(cells=2), [0, 1], [])
        second = vault.lend(one_more(cells=2), [1, 2], [])
        self.check_blocked(vault, first)
        self.check_free(vault, second)
        vault.recall(second)
        self.check_free(vault, first)

    def test_a_cell_counts_though_no_step_asks_for_it(self):
        vault = Vault([1, 2, 3], 10)
        first = vault.lend(Program(10, 2, 0, []), [0, 1], [])
        second = vault.lend(Program(10, 2, 0, []), [2, 1], [])
        self.check_blocked(vault, first)
        self.assertEqual(vault.answer(second), 0)

    def test_cells_that_are_not_shared(self):
        vault = Vault([1, 2, 3, 4], 10)
        first = vault.lend(one_more(cells=2), [0, 2], [])
        second = vault.lend(one_more(cells=2), [1, 3], [])
        for ticket in (first, second, first):
            self.check_free(vault, ticket)
        self.assertEqual((vault.advance(first, 1), vault.answer(first)), (1, 1))
        self.assertEqual(vault.recall(first), 1)
        self.assertEqual(vault.advance(second, 1), 1)
        self.assertEqual(vault.memory, [1, 3, 3, 4])

    def test_a_finished_loan_is_blocked_for_answer_too(self):
        vault = Vault([1, 2], 10)
        first = vault.lend(one_more(), [0], [])
        vault.advance(first, 1)
        self.assertEqual(vault.answer(first), 1)
        second = vault.lend(one_more(cells=2), [1, 0], [])
        self.check_blocked(vault, first)
        vault.advance(second, 1)
        self.check_blocked(vault, first)
        vault.recall(second)
        self.assertEqual(vault.answer(first), 1)

    def test_only_open_loans_with_greater_tickets_block(self):
        vault = Vault([1, 2, 3, 4], 10)
        tickets = [vault.lend(one_more(cells=2), places, []) for places in ([0, 1], [1, 2], [2, 3], [3, 0])]
        for ticket in tickets[:3]:
            self.check_blocked(vault, ticket)
        self.assertEqual(vault.recall(3), 0)
        self.check_blocked(vault, 0)
        self.check_blocked(vault, 1)
        self.check_free(vault, 2)
        self.assertEqual(vault.recall(2), 0)
        self.check_blocked(vault, 0)
        self.check_free(vault, 1)
        self.assertEqual(vault.recall(1), 0)
        self.check_free(vault, 0)

    def test_one_of_several_is_enough(self):
        vault = Vault([1, 2, 3], 10)
        for places in ([0], [1], [2], [0]):
            vault.lend(one_more(), places, [])
        self.check_blocked(vault, 0)
        for ticket in (1, 2, 3):
            self.check_free(vault, ticket)
        vault.recall(3)
        self.check_free(vault, 0)

    def test_borrowing_in_the_middle_of_work(self):
        # Both programs are clean, so that each answer is right whatever the other one left there.
        vault = Vault([5, 6, 7, 8], 10)
        program = compile_source(SOURCE, 10)
        for n in range(5):
            first = vault.lend(program, [0, 1, 2], [3, 4])
            vault.advance(first, n)
            found = vault.memory
            second = vault.lend(program, [2, 0, 3], [7, 9])
            self.assertEqual(vault.advance(second, 4), 4)
            self.assertEqual(vault.answer(second), 3)
            self.assertEqual(vault.memory, [found[0], found[1], (found[2] + 3) % 10, found[3]])
            self.check_blocked(vault, first)
            self.assertEqual(vault.recall(second), 4)
            self.assertEqual(vault.memory, found)
            self.assertEqual(vault.advance(first, 4), 4 - n)
            self.assertEqual(vault.answer(first), 2)
            self.assertEqual(vault.recall(first), 4)
            self.assertEqual(vault.memory, [5, 6, 7, 8])


def some_program(chance, modulus):
    cells, inputs = chance.randint(1, 4), chance.randint(0, 2)
    steps = []
    for _ in range(chance.randrange(12)):
        target, other = chance.randrange(cells), chance.randrange(cells)
        factors = [("cell", at) for at in range(cells) if at != target] + [("input", at) for at in range(inputs)]
        picked = tuple(chance.choice(factors) for _ in range(chance.randrange(4)) if factors)
        steps.append(chance.choice((("add", target, chance.randrange(modulus), picked), ("scale", target, modulus - 1),
                                    ("swap", target, other) if target != other else ("scale", target, 1))))
    return Program(modulus, cells, inputs, steps)


class Remembered:
    """A vault that never takes a step back: it performs again what the open loans have done, in that order."""

    def __init__(self, memory, modulus):
        self.first, self.modulus, self.loans, self.log, self.lent = memory, modulus, {}, [], 0

    def lend(self, program, places, given):
        self.loans[self.lent] = [program, places, given, 0, self.memory()[places[0]]]
        self.lent += 1
        return self.lent - 1

    def memory(self):
        memory = list(self.first)
        for ticket, n in self.log:
            program, places, given = self.loans[ticket][:3]
            one = Program(self.modulus, program.cells, program.inputs, [program.steps[n]])
            for place, content in zip(places, one.run([memory[place] for place in places], given)):
                memory[place] = content
        return memory

    def is_blocked(self, ticket):
        places = set(self.loans[ticket][1])
        return any(other > ticket and places & set(loan[1]) for other, loan in self.loans.items())

    def advance(self, ticket, most):
        loan = self.loans[ticket]
        many = min(most, len(loan[0]) - loan[3])
        self.log += [(ticket, loan[3] + n) for n in range(many)]
        loan[3] += many
        return many

    def answer(self, ticket):
        program, places, _, done, first = self.loans[ticket]
        return (self.memory()[places[0]] - first) % self.modulus if done == len(program) else None

    def recall(self, ticket):
        self.log = [(other, n) for other, n in self.log if other != ticket]
        return self.loans.pop(ticket)[3]


class MixtureTest(unittest.TestCase):
    def mix(self, seed, modulus, cells, calls):
        chance = random.Random(seed)
        memory = [chance.randrange(modulus) for _ in range(cells)]
        vault, model = Vault(memory, modulus), Remembered(memory, modulus)
        advanced = recalled = 0
        for _ in range(calls):
            kind = chance.choice(("lend", "advance", "advance", "advance", "answer", "recall"))
            if kind == "lend" or not model.loans:
                program = some_program(chance, modulus)
                places = chance.sample(range(cells), program.cells)
                given = [chance.randrange(modulus) for _ in range(program.inputs)]
                self.assertEqual(vault.lend(program, places, given), model.lend(program, places, given))
                continue
            ticket = chance.choice(list(model.loans))
            more = (chance.randrange(6),) if kind == "advance" else ()
            if model.is_blocked(ticket) or kind == "answer" and model.answer(ticket) is None:
                with self.assertRaises(Busy):
                    getattr(vault, kind)(ticket, *more)
            else:
                many = getattr(vault, kind)(ticket, *more)
                self.assertEqual(many, getattr(model, kind)(ticket, *more))
                advanced += many if kind == "advance" else 0
                recalled += many if kind == "recall" else 0
            self.assertEqual(vault.memory, model.memory())
            self.assertEqual(vault.open_loans(), sorted(model.loans))
        for ticket in vault.open_loans()[::-1]:
            recalled += vault.recall(ticket)
        self.assertEqual(vault.memory, memory)
        self.assertEqual(vault.open_loans(), [])
        self.assertLessEqual(recalled, advanced)

    def test_mixtures(self):
        for seed in range(60):
            with self.subTest(seed):
                self.mix(seed, (2, 3, 10, 10 ** 9)[seed % 4], (4, 6, 9, 30)[seed // 4 % 4], 40)


if __name__ == "__main__":
    unittest.main()
