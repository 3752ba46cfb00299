"""The four kinds of steps: which tuples are steps, what they change, and what takes them back."""

from math import gcd

from brimful.numbers import interpolate, inverse_of, is_below

MOST_FACTORS = 3


def is_step(step, modulus, cells, inputs):
    """Whether this is a step over so many cells and inputs.

    That the modulus of a table step is a prime is not asked here: one
    answer holds for all steps of a program, and it takes long to find.
    """
    if not isinstance(step, tuple):
        return False
    match step:
        case ("add", target, coefficient, factors):
            return (is_below(target, cells) and is_below(coefficient, modulus)
                    and _are_factors(factors, target, cells, inputs))
        case ("scale", target, unit):
            return is_below(target, cells) and is_below(unit, modulus) and gcd(unit, modulus) == 1
        case ("swap", a, b):
            return is_below(a, cells) and is_below(b, cells) and a != b
        case ("table", target, sign, table, a, b):
            return (_are_three_cells(target, a, b, cells) and _is_sign(sign, modulus)
                    and is_table(table, modulus))
        case _:
            return False


def _are_factors(factors, target, cells, inputs):
    if not isinstance(factors, tuple) or len(factors) > MOST_FACTORS:
        return False
    return all([_is_factor(factor, target, cells, inputs) for factor in factors])


def _is_factor(factor, target, cells, inputs):
    if not isinstance(factor, tuple):
        return False
    match factor:
        case ("cell", at):
            return is_below(at, cells) and at != target
        case ("input", at):
            return is_below(at, inputs)
        case _:
            return False


def _are_three_cells(target, a, b, cells):
    if not all([is_below(cell, cells) for cell in (target, a, b)]):
        return False
    return target != a and target != b and a != b


def _is_sign(sign, modulus):
    return is_below(sign, modulus) and sign in (1, modulus - 1)


def is_table(table, modulus):
    """Whether this is a square tuple of tuples of numbers, with at most as many rows as there are numbers."""
    if not isinstance(table, tuple) or not 1 <= len(table) <= modulus:
        return False
    return all([_is_row(row, len(table), modulus) for row in table])


def _is_row(row, size, modulus):
    if not isinstance(row, tuple) or len(row) != size:
        return False
    return all([is_below(value, modulus) for value in row])


def changes(step, memory, given, modulus):
    """What a step of a program changes in the memory: pairs of a cell and its new content."""
    match step:
        case ("add", target, coefficient, factors):
            amount = coefficient * _product_of(factors, memory, given, modulus)
            return [(target, (memory[target] + amount) % modulus)]
        case ("scale", target, unit):
            return [(target, memory[target] * unit % modulus)]
        case ("swap", a, b):
            return [(a, memory[b]), (b, memory[a])]
        case ("table", target, sign, table, a, b):
            amount = sign * interpolate(table, modulus, memory[a], memory[b])
            return [(target, (memory[target] + amount) % modulus)]


def performed(steps, memory, given, modulus):
    """The memory behind steps of a program, a new list."""
    behind = list(memory)
    for step in steps:
        changed = changes(step, behind, given, modulus)
        for cell, content in changed:
            behind[cell] = content
    return behind


def _product_of(factors, memory, given, modulus):
    result = 1
    for place, at in factors:
        number = memory[at] if place == "cell" else given[at]
        result = result * number % modulus
    return result


def inverse_step(step, modulus):
    """The step that takes back what this step of a program does."""
    match step:
        case ("add", target, coefficient, factors):
            return ("add", target, (modulus - coefficient) % modulus, factors)
        case ("scale", target, unit):
            return ("scale", target, inverse_of(unit, modulus))
        case ("swap", _, _):
            return step
        case ("table", target, sign, table, a, b):
            return ("table", target, modulus - sign, table, a, b)
