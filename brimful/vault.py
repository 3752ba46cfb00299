"""The vault: a memory that belongs to an owner, and whose cells are lent to programs."""

from brimful.errors import BadMemory, BadStep, BadTicket, Busy
from brimful.numbers import are_numbers, is_below, is_modulus
from brimful.programs import Program
from brimful.steps import inverse_step, performed

MOST_CELLS = 200


class Loan:
    """A program at work on places of a vault."""

    def __init__(self, program, places, given, first):
        self.steps = list(program.steps)
        self.places = list(places)
        self.given = list(given)
        # What the first place contained when the loan was made.
        self.first = first
        self.done = 0


class Vault:
    """A memory of which each loan gives back every cell as it found it."""

    def __init__(self, memory, modulus):
        if not is_modulus(modulus):
            raise BadMemory("the modulus is none")
        if not _is_memory(memory, modulus):
            raise BadMemory(f"the memory is not a list of 1 to {MOST_CELLS} numbers")
        self._memory = list(memory)
        self._modulus = modulus
        # The open loans by their tickets.
        self._loans = {}
        self._next_ticket = 0

    @property
    def memory(self):
        """The memory as it is now, a new list."""
        return list(self._memory)

    def lend(self, program, places, given):
        """Lends the places to the program, and returns the ticket of the loan."""
        if not isinstance(program, Program) or program.modulus != self._modulus:
            raise BadStep("this is not a program with the modulus of the vault")
        if not _are_places(places, program.cells, len(self._memory)):
            raise BadMemory(f"the places are not a list of {program.cells} different cells of the vault")
        if not are_numbers(given, program.inputs, self._modulus):
            raise BadMemory(f"the inputs are not a list of {program.inputs} numbers")
        ticket = self._next_ticket
        self._loans[ticket] = Loan(program, places, given, self._memory[places[0]])
        self._next_ticket = ticket + 1
        return ticket

    def advance(self, ticket, most):
        """Performs at most so many further steps of the loan, and returns how many."""
        loan = self._free_loan(ticket)
        coming = loan.steps[loan.done:loan.done + max(0, most)]
        self._perform(loan, coming)
        loan.done += len(coming)
        return len(coming)

    def answer(self, ticket):
        """By how much the first place of the loan has changed, if all its steps have been done."""
        loan = self._free_loan(ticket)
        if loan.done < len(loan.steps):
            raise Busy("the program of the loan is not finished")
        return (self._memory[loan.places[0]] - loan.first) % self._modulus

    def recall(self, ticket):
        """Takes back the steps that the loan has done, closes it, and returns how many they were."""
        loan = self._free_loan(ticket)
        past = loan.steps[:loan.done]
        self._perform(loan, [inverse_step(step, self._modulus) for step in past[::-1]])
        del self._loans[ticket]
        return len(past)

    def open_loans(self):
        """The tickets of the open loans, ascending."""
        return sorted(self._loans)

    def _free_loan(self, ticket):
        """The open loan with this ticket, if it is not blocked."""
        if not is_below(ticket, self._next_ticket) or ticket not in self._loans:
            raise BadTicket("this is not the ticket of an open loan")
        loan = self._loans[ticket]
        if any([other > ticket and _share_cells(loan, self._loans[other]) for other in self._loans]):
            raise Busy("the loan is blocked by a later one")
        return loan

    def _perform(self, loan, steps):
        contents = [self._memory[place] for place in loan.places]
        behind = performed(steps, contents, loan.given, self._modulus)
        for place, content in zip(loan.places, behind):
            self._memory[place] = content


def _is_memory(memory, modulus):
    if not isinstance(memory, list) or not 1 <= len(memory) <= MOST_CELLS:
        return False
    return are_numbers(memory, len(memory), modulus)


def _are_places(places, many, cells):
    """Whether this is a list of so many different cells."""
    return are_numbers(places, many, cells) and len(set(places)) == many


def _share_cells(loan, other):
    return len(set(loan.places) & set(other.places)) > 0
