"""Sources compiled to programs with three borrowed cells, and answers taken out of a full memory."""

from brimful.errors import BadStep, TooLong
from brimful.numbers import is_modulus
from brimful.programs import MOST_STEPS, Program
from brimful.sources import check_source, cost, needs

CELLS = 3


def compile_source(source, modulus):
    """The program that adds the value of the source to the cell 0 and leaves the cells 1 and 2."""
    check_source(source)
    if not is_modulus(modulus):
        raise BadStep("the modulus is none")
    if cost(source) > MOST_STEPS:
        raise TooLong(f"the program would have more than {MOST_STEPS} steps")
    return Program(modulus, CELLS, needs(source), _steps_of(source, modulus))


def answer(program, memory, given):
    """By how much the program changes the cell 0, and the memory after this is taken back."""
    middle = program.run(memory, given)
    amount = (middle[0] - memory[0]) % program.modulus
    back = -program
    return amount, back.run(middle, given)


def _steps_of(source, modulus):
    """The steps for the source.

    A task (node, target, coefficient, factors) is: to add the coefficient (any
    integer) times the value of the node times the product of the factors (none,
    or one cell) to the target, and to leave every other cell as it was.
    """
    bases = _without_scaling(source, modulus)
    steps = []
    tasks = [(len(source) - 1, 0, 1, ())]
    while tasks:
        at, target, coefficient, factors = tasks.pop()
        base, scale = bases[at]
        coefficient = coefficient * scale % modulus
        match source[base]:
            case ("const", c):
                steps.append(("add", target, coefficient * c % modulus, factors))
            case ("input", k):
                steps.append(("add", target, coefficient, factors + (("input", k),)))
            case node:
                tasks.extend(_parts_of(node, target, coefficient, factors)[::-1])
    return steps


def _without_scaling(source, modulus):
    """For each node, the node behind all scaling, and by how much that one is scaled.

    Otherwise a long row of scaled nodes would be walked through for each step.
    """
    bases = []
    for at, node in enumerate(source):
        match node:
            case ("scaled", c, i):
                base, scale = bases[i]
                bases.append((base, scale * c % modulus))
            case _:
                bases.append((at, 1))
    return bases


def _parts_of(node, target, coefficient, factors):
    """The tasks that together do the task of this node, in order."""
    borrowed = _borrowed_cell(target, factors)
    by = (("cell", borrowed),)
    # The borrowed cell holds more than what is put there. What the rest of it
    # adds to the target is taken back with the opposite coefficient.
    match node:
        case ("sum", i, j):
            return [(i, target, coefficient, factors), (j, target, coefficient, factors)]
        case ("product", i, j):
            return [(i, borrowed, 1, factors), (j, target, coefficient, by),
                    (i, borrowed, -1, factors), (j, target, -coefficient, by)]
        case ("choose", i, j, other):
            return [(other, target, coefficient, factors),
                    (i, borrowed, 1, factors), (j, target, coefficient, by), (other, target, -coefficient, by),
                    (i, borrowed, -1, factors), (j, target, -coefficient, by), (other, target, coefficient, by)]


def _borrowed_cell(target, factors):
    for cell in range(CELLS):
        if cell != target and ("cell", cell) not in factors:
            return cell
