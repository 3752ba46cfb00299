"""The judge: whether a program over a prime modulus gives back every content, and the polynomials of its cells."""

from brimful.errors import BadStep, TooLong
from brimful.grids import coefficients, grid_points
from brimful.numbers import are_numbers, is_below, is_prime
from brimful.programs import Program
from brimful.steps import performed

GREATEST_EFFORT = 400000


def judge(program, target):
    """None if the program is clean for the target, or else the first witness that it is not."""
    _check_kind(program)
    if not is_below(target, program.cells):
        raise BadStep("the target is not a cell of the program")
    _check_effort(program)
    modulus, inputs = program.modulus, program.inputs
    sizes = [modulus] * (inputs + program.cells)
    leak = None
    first_amount = 0
    for numbers in grid_points(sizes):
        given, memory = list(numbers[:inputs]), list(numbers[inputs:])
        behind = performed(program.steps, memory, given, modulus)
        spoilt = _spoilt_cells(memory, behind, target)
        if spoilt:
            return ("spoilt", given, memory, spoilt[0])
        amount = (behind[target] - memory[target]) % modulus
        if not any(memory):
            # Whatever the inputs, their first memory is that of 0s.
            first_amount = amount
        elif leak is None and amount != first_amount:
            leak = ("leaky", given, [0] * program.cells, memory)
    return leak


def _check_kind(program):
    """Raises BadStep for a program that the judge does not judge."""
    if not isinstance(program, Program):
        raise BadStep("only a program is judged")
    if not is_prime(program.modulus):
        raise BadStep("the modulus is not a prime")
    if any([step[0] == "table" for step in program.steps]):
        raise BadStep("a program with a table step is not judged")


def _check_effort(program):
    """Raises TooLong for a program that takes too many steps on all inputs and memories."""
    effort = len(program.steps) + 1
    for _ in range(program.inputs + program.cells):
        effort = effort * program.modulus
    if effort > GREATEST_EFFORT:
        raise TooLong(f"the judge would take more than {GREATEST_EFFORT} steps")


def _spoilt_cells(memory, behind, target):
    """The cells other than the target that are not as before."""
    return [cell for cell, content in enumerate(memory) if content != behind[cell] and cell != target]


def refutes(program, target, witness):
    """Whether the witness shows that the program is not clean for the target."""
    if not isinstance(program, Program) or not isinstance(witness, tuple):
        return False
    match witness:
        case ("spoilt", given, memory, cell):
            return _shows_spoilt(program, target, given, memory, cell)
        case ("leaky", given, memory, other):
            return _shows_leak(program, target, given, memory, other)
        case _:
            return False


def _shows_spoilt(program, target, given, memory, cell):
    if not is_below(cell, program.cells) or cell == target or not _may_run(program, memory, given):
        return False
    behind = program.run(memory, given)
    return behind[cell] != memory[cell]


def _shows_leak(program, target, given, memory, other):
    if not is_below(target, program.cells):
        return False
    if not _may_run(program, memory, given) or not _may_run(program, other, given):
        return False
    amount = program.run(memory, given)[target] - memory[target]
    other_amount = program.run(other, given)[target] - other[target]
    return (amount - other_amount) % program.modulus != 0


def _may_run(program, memory, given):
    modulus = program.modulus
    return are_numbers(memory, program.cells, modulus) and are_numbers(given, program.inputs, modulus)


def polynomials(program):
    """For each cell the terms of its polynomial: pairs of exponents and a coefficient, in ascending order."""
    _check_kind(program)
    _check_effort(program)
    inputs, prime = program.inputs, program.modulus
    behind_at = {}
    found = []
    for cell, degrees in enumerate(_degrees_of(program)):
        sizes = [degree + 1 for degree in degrees]
        contents = []
        for point in grid_points(sizes):
            if point not in behind_at:
                behind_at[point] = performed(program.steps, list(point[inputs:]), list(point[:inputs]), prime)
            contents.append(behind_at[point][cell])
        found.append(_terms(coefficients(contents, sizes, prime), sizes))
    return found


def _terms(numbers, sizes):
    """The terms for the coefficients that are not 0."""
    return [(exponents, number) for exponents, number in zip(grid_points(sizes), numbers) if number != 0]


def _degrees_of(program):
    """For each cell, a bound for its polynomial's degree in each input and each cell's first content.

    Without it, every polynomial would be looked for among those of all degrees below the prime.
    """
    inputs, prime = program.inputs, program.modulus
    many = inputs + program.cells
    degrees = [[1 if variable == own else 0 for variable in range(many)] for own in range(many)]
    for step in program.steps:
        match step:
            case ("add", target, _, factors):
                parts = [degrees[at if place == "input" else inputs + at] for place, at in factors]
                added = [sum([part[variable] for part in parts]) for variable in range(many)]
                old = degrees[inputs + target]
                degrees[inputs + target] = [min(prime - 1, max(pair)) for pair in zip(old, added)]
            case ("swap", a, b):
                degrees[inputs + a], degrees[inputs + b] = degrees[inputs + b], degrees[inputs + a]
    return degrees[inputs:]
