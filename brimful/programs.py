"""Programs: lists of steps over cells and inputs that can be run, joined, stopped and called back."""

from brimful.errors import BadMemory, BadStep
from brimful.numbers import are_numbers, is_below, is_modulus, is_prime
from brimful.steps import inverse_step, is_step, performed

MOST_CELLS = 60
MOST_INPUTS = 60
MOST_STEPS = 20000


class Program:
    """A list of steps with its modulus and its numbers of cells and inputs."""

    def __init__(self, modulus, cells, inputs, steps):
        _check_sizes(modulus, cells, inputs)
        _check_steps(steps, modulus, cells, inputs)
        self.modulus = modulus
        self.cells = cells
        self.inputs = inputs
        self.steps = list(steps)

    def __len__(self):
        return len(self.steps)

    def __add__(self, other):
        if not isinstance(other, Program):
            raise BadStep("only a program can be put behind a program")
        if other.modulus != self.modulus:
            raise BadStep("the programs have different moduli")
        if other.cells != self.cells or other.inputs != self.inputs:
            raise BadStep("the programs have different numbers of cells or inputs")
        return Program(self.modulus, self.cells, self.inputs, self.steps + other.steps)

    def __neg__(self):
        back = [inverse_step(step, self.modulus) for step in self.steps[::-1]]
        return Program(self.modulus, self.cells, self.inputs, back)

    def run(self, memory, given):
        """The memory behind the program; given are the inputs."""
        if not are_numbers(memory, self.cells, self.modulus):
            raise BadMemory(f"the memory is not a list of {self.cells} numbers")
        if not are_numbers(given, self.inputs, self.modulus):
            raise BadMemory(f"the inputs are not a list of {self.inputs} numbers")
        return performed(self.steps, memory, given, self.modulus)

    def part(self, n):
        """The program of the first n steps."""
        if not is_below(n, len(self.steps) + 1):
            raise BadStep("the program does not have so many steps")
        return Program(self.modulus, self.cells, self.inputs, self.steps[:n])

    def called_back(self, n):
        """The program that takes back the first n steps."""
        return -self.part(n)


def _check_sizes(modulus, cells, inputs):
    if not is_modulus(modulus):
        raise BadStep("the modulus is none")
    if not is_below(cells, MOST_CELLS + 1) or cells == 0:
        raise BadStep("the number of cells is none")
    if not is_below(inputs, MOST_INPUTS + 1):
        raise BadStep("the number of inputs is none")


def _check_steps(steps, modulus, cells, inputs):
    if not isinstance(steps, list) or len(steps) > MOST_STEPS:
        raise BadStep(f"the steps are not a list of at most {MOST_STEPS} tuples")
    for at, step in enumerate(steps):
        if not is_step(step, modulus, cells, inputs):
            raise BadStep(f"step {at} is none of this program")
    if any([step[0] == "table" for step in steps]) and not is_prime(modulus):
        raise BadStep("a table step needs a prime modulus")
