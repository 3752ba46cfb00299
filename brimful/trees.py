"""Trees of functions: which tuples are trees, their values and costs, and how they are compiled."""

from brimful.errors import BadTree, TooLong
from brimful.numbers import inverse_of, is_below, is_prime
from brimful.programs import MOST_STEPS, Program
from brimful.steps import inverse_step, is_table

CELLS = 3
MOST_VALUES = 40
MOST_NODES = 200
MOST_DEPTH = 40
LEAST_PRIME = 3


def check_tree(tree, values):
    """Returns None, or raises BadTree for what is not a tree over so many values."""
    _check_values(values)
    if not _is_tree(tree, values):
        raise BadTree("this is not a tree over so many values")


def _check_values(values):
    if not is_below(values, MOST_VALUES + 1) or values == 0:
        raise BadTree("the number of values is none")


def _is_tree(tree, values):
    # Each part is counted when it is met: one tuple may stand in so many places
    # that a walk through all of them would never end.
    met = 0
    waiting = [(tree, 1)]
    while waiting:
        part, depth = waiting.pop()
        met += 1
        if met > MOST_NODES or depth > MOST_DEPTH or not _is_part(part, values):
            return False
        if part[0] == "node":
            waiting.extend([(part[2], depth + 1), (part[3], depth + 1)])
    return True


def _is_part(part, values):
    """Whether this is a leaf, or a node of a table and of two parts that are still to be looked at."""
    if not isinstance(part, tuple):
        return False
    match part:
        case ("leaf", v):
            return is_below(v, values)
        case ("node", table, _, _):
            return is_table(table, values) and len(table) == values
        case _:
            return False


def tree_value(tree, values):
    """The value of the tree."""
    check_tree(tree, values)
    return _value_of(tree)


def _value_of(tree):
    match tree:
        case ("leaf", v):
            return v
        case ("node", table, left, right):
            return table[_value_of(left)][_value_of(right)]


def prime_of(values):
    """The least prime that is at least twice the number of values, and at least 3."""
    _check_values(values)
    prime = max(LEAST_PRIME, 2 * values)
    while not is_prime(prime):
        prime += 1
    return prime


def tree_cost(tree, values):
    """The number of steps of the program for the tree, however great it is."""
    check_tree(tree, values)
    return _cost_of(tree, prime_of(values))


def _cost_of(tree, prime):
    match tree:
        case ("leaf", _):
            return 1
        case ("node", _, left, right):
            return (prime - 1) * (2 * (_cost_of(left, prime) + _cost_of(right, prime)) + 5)


def compile_tree(tree, values):
    """The program that adds the value of the tree to the cell 0 and leaves the cells 1 and 2."""
    if tree_cost(tree, values) > MOST_STEPS:
        raise TooLong(f"the program would have more than {MOST_STEPS} steps")
    prime = prime_of(values)
    return Program(prime, CELLS, 0, _steps_of(tree, 0, prime))


def _steps_of(tree, target, prime):
    """The steps that add the value of the tree to the target and leave every other cell as it was."""
    match tree:
        case ("leaf", v):
            return [("add", target, v, ())]
        case ("node", table, left, right):
            a, b = [cell for cell in range(CELLS) if cell != target]
            put = _steps_of(left, a, prime) + _steps_of(right, b, prime)
            back = [inverse_step(step, prime) for step in put[::-1]]
            # The polynomial at u times the borrowed contents plus both values is one in u of
            # a degree below prime - 1: minus its sum over all u is what it is for the values alone.
            middle = put + [("table", target, prime - 1, table, a, b)] + back
            steps = []
            for u in range(1, prime):
                steps.extend(_scaled(a, b, u) + middle + _scaled(a, b, inverse_of(u, prime)))
            return steps


def _scaled(a, b, unit):
    return [("scale", a, unit), ("scale", b, unit)]
