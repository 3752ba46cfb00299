"""Sources for the tests, and what they mean, worked out from the words of the document alone."""

import random
from itertools import product

GREATEST = 10 ** 9 - 1
# One source for each kind of node, and some in which a node is referred to several times.
SOURCES = (
    (("const", 7),),
    (("const", 0),),
    (("const", GREATEST),),
    (("input", 0),),
    (("input", 2),),
    (("input", 0), ("input", 1), ("sum", 0, 1)),
    (("input", 0), ("sum", 0, 0)),
    (("input", 0), ("input", 1), ("product", 0, 1)),
    (("input", 0), ("product", 0, 0)),
    (("input", 0), ("scaled", 5, 0)),
    (("input", 0), ("scaled", 0, 0)),
    (("input", 0), ("scaled", GREATEST, 0), ("scaled", 3, 1)),
    (("input", 0), ("input", 1), ("input", 2), ("choose", 0, 1, 2)),
    (("input", 0), ("choose", 0, 0, 0)),
    (("input", 0), ("input", 1), ("choose", 0, 1, 0), ("choose", 1, 2, 2)),
    (("input", 0), ("product", 0, 0), ("product", 1, 1)),
    (("input", 0), ("input", 1), ("product", 0, 1), ("sum", 2, 0), ("product", 3, 2), ("scaled", 4, 4)),
    (("const", 3), ("input", 1), ("sum", 0, 1), ("product", 2, 2), ("scaled", 2, 3), ("choose", 1, 4, 2),
     ("product", 5, 0)),
    (("input", 0), ("scaled", 2, 0), ("scaled", 3, 1), ("product", 2, 1), ("scaled", 5, 3), ("sum", 4, 2)),
    # The last node asks for nothing of the node before it.
    (("input", 1), ("input", 5), ("product", 0, 0)),
)

BOOLEANS = (
    (("input", 0),),
    (("input", 3),),
    (("input", 0), ("not", 0)),
    (("input", 0), ("not", 0), ("not", 1)),
    (("input", 0), ("input", 1), ("and", 0, 1)),
    (("input", 0), ("input", 1), ("or", 0, 1)),
    (("input", 0), ("and", 0, 0)),
    (("input", 0), ("or", 0, 0)),
    (("input", 0), ("not", 0), ("and", 0, 1)),
    (("input", 0), ("not", 0), ("or", 0, 1)),
    (("input", 0), ("input", 1), ("and", 0, 1), ("not", 2)),
    (("input", 0), ("input", 1), ("or", 0, 1), ("not", 2)),
    (("input", 0), ("input", 1), ("input", 2), ("and", 0, 1), ("or", 3, 2), ("not", 4), ("or", 5, 3)),
    (("input", 0), ("input", 1), ("or", 0, 1), ("and", 0, 1), ("not", 3), ("and", 2, 4)),
    (("input", 0), ("input", 1), ("not", 0), ("not", 2), ("not", 3), ("or", 4, 1), ("not", 5), ("and", 6, 6)),
    # The last node asks for nothing of the node before it.
    (("input", 0), ("input", 4), ("not", 0)),
)


def value_of(source, modulus, given, at=None):
    node = source[len(source) - 1 if at is None else at]
    values = [value_of(source, modulus, given, k) for k in references(node)]
    if node[0] == "const":
        value = node[1]
    elif node[0] == "input":
        value = given[node[1]]
    elif node[0] == "sum":
        value = values[0] + values[1]
    elif node[0] == "product":
        value = values[0] * values[1]
    elif node[0] == "scaled":
        value = node[1] * values[0]
    else:
        value = values[2] + values[0] * values[1] - values[0] * values[2]
    return value % modulus


def references(node):
    if node[0] in ("const", "input"):
        return ()
    return node[2:] if node[0] == "scaled" else node[1:]


def cost_of(source, at=None):
    node = source[len(source) - 1 if at is None else at]
    costs = [cost_of(source, k) for k in references(node)]
    if node[0] in ("sum", "scaled"):
        return sum(costs)
    if node[0] == "product":
        return 2 * sum(costs)
    return costs[2] + 2 * sum(costs) if costs else 1


def is_true(source, bits, at=None):
    node = source[len(source) - 1 if at is None else at]
    if node[0] == "input":
        return bits[node[1]]
    if node[0] == "not":
        return not is_true(source, bits, node[1])
    both = [is_true(source, bits, k) for k in node[1:]]
    return all(both) if node[0] == "and" else any(both)


def length_of(source, at=None):
    node = source[len(source) - 1 if at is None else at]
    lengths = [] if node[0] == "input" else [length_of(source, k) for k in node[1:]]
    if node[0] == "not":
        return lengths[0]
    return 2 * sum(lengths) if lengths else 1


def inputs_of(source):
    return max([node[1] + 1 for node in source if node[0] == "input"], default=0)


def some_source(seed, nodes, greatest=300):
    """A source of so many nodes that belongs to the seed, whose last node costs at most the greatest cost."""
    chance = random.Random(seed)
    source = [("input", 0), ("input", 1), ("const", chance.choice((0, 1, 2, GREATEST)))]
    while len(source) < nodes:
        i, j, k = [chance.randrange(len(source)) for _ in range(3)]
        kind = chance.choice(("input", "sum", "product", "scaled", "choose"))
        node = {"input": ("input", chance.randrange(3)), "sum": ("sum", i, j), "product": ("product", i, j),
                "scaled": ("scaled", chance.choice((0, 1, 3, GREATEST)), i), "choose": ("choose", i, j, k)}[kind]
        if cost_of(source + [node]) <= greatest:
            source.append(node)
    return tuple(source)


def some_boolean(seed, nodes, greatest=300):
    """The same for Boolean sources and lengths."""
    chance = random.Random(seed)
    source = [("input", 0), ("input", 1)]
    while len(source) < nodes:
        i, j = [chance.randrange(len(source)) for _ in range(2)]
        node = chance.choice((("input", chance.randrange(4)), ("not", i), ("and", i, j), ("or", i, j)))
        if length_of(source + [node]) <= greatest:
            source.append(node)
    return tuple(source)


def all_sources():
    return SOURCES + tuple(some_source(seed, 4 + seed % 7) for seed in range(25))


def all_booleans():
    return BOOLEANS + tuple(some_boolean(seed, 4 + seed % 7) for seed in range(25))


def all_bits(many):
    return [list(bits) for bits in product((False, True), repeat=many)]


def source_of_cost(many):
    """A source of sums alone with exactly this cost; its value is that cost times the input 0."""
    source, at = [("input", 0)], 0
    for digit in bin(many)[3:]:
        source.append(("sum", at, at))
        at = len(source) - 1
        if digit == "1":
            source.append(("sum", at, 0))
            at = len(source) - 1
    return tuple(source)


def boolean_of_length(many):
    """A Boolean source with exactly this length, which is 4 more than a multiple of 6 (no other even ones exist)."""
    source = [("input", 0), ("input", 1), ("or", 0, 1)]
    parts = []
    while many > 4:
        # The length is twice that of an input (1) or of the node 2 (4), and the rest.
        half = many // 2
        parts.append(0 if half % 2 else 2)
        many = half - (1 if half % 2 else 4)
    for part in parts[::-1]:
        source.append(("and", len(source) - 1, part))
    return tuple(source)


def squares(nodes):
    """A source in which each product takes the node before twice."""
    return (("input", 0),) + tuple(("product", at, at) for at in range(nodes - 1))


def doubled_ands(nodes):
    """A Boolean source in which each node takes the node before twice."""
    return (("input", 0),) + tuple((("and", "or")[at % 2], at, at) for at in range(nodes - 1))
