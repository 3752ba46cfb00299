"""Boolean sources: their truth, and how they are compiled to words of permutations of five points."""

from brimful.bits import are_bits
from brimful.cycles import POINTS, SAME, inverted, is_cycle, is_permutation, joined, two_cycles
from brimful.errors import BadMemory, BadSource, BadWord, TooLong
from brimful.nodes import are_before, are_nodes, inputs_needed, is_input
from brimful.numbers import is_below

MOST_TRIPLES = 20000


def check_boolean(source):
    """Returns None, or raises BadSource for what is not a Boolean source."""
    if not are_nodes(source) or not all([_is_node(node, at) for at, node in enumerate(source)]):
        raise BadSource("this is not a Boolean source")


def _is_node(node, at):
    """Whether this tuple is a node that may stand at the index."""
    match node:
        case ("input", k):
            return is_input(k)
        case ("not", i):
            return are_before(at, i)
        case ("and", i, j):
            return are_before(at, i, j)
        case ("or", i, j):
            return are_before(at, i, j)
        case _:
            return False


def truth(source, bits):
    """Whether the source is true for the bits."""
    check_boolean(source)
    if not are_bits(bits, inputs_needed(source)):
        raise BadMemory("the bits are not a list of True and False with all bits that the source names")
    truths = []
    for node in source:
        truths.append(_truth_of(node, truths, bits))
    return truths[-1]


def _truth_of(node, truths, bits):
    match node:
        case ("input", k):
            return bits[k]
        case ("not", i):
            return not truths[i]
        case ("and", i, j):
            return truths[i] and truths[j]
        case ("or", i, j):
            return truths[i] or truths[j]


def length(source):
    """The number of triples of the word for the source, however great it is."""
    check_boolean(source)
    lengths = []
    for node in source:
        match node:
            case ("input", _):
                lengths.append(1)
            case ("not", i):
                lengths.append(lengths[i])
            case (_, i, j):
                lengths.append(2 * (lengths[i] + lengths[j]))
    return lengths[-1]


def compile_word(source, cycle):
    """The word that sends every point by the cycle if the source is true, and by nothing otherwise."""
    check_boolean(source)
    if not is_cycle(cycle):
        raise BadWord("the cycle is none")
    if length(source) > MOST_TRIPLES:
        raise TooLong(f"the word would have more than {MOST_TRIPLES} triples")
    return _word_of(source, cycle)


def _word_of(source, cycle):
    """The triples for the source.

    A task (node, wanted, cycle, behind) is: to send every point by the cycle if
    the node has the wanted truth, and then, in any case, by the permutation behind.
    """
    bases = _without_nots(source)
    word = []
    tasks = [(len(source) - 1, True, cycle, SAME)]
    while tasks:
        at, wanted, sent, behind = tasks.pop()
        base, same = bases[at]
        wanted = wanted if same else not wanted
        match source[base]:
            case ("input", k):
                met = joined(sent, behind)
                word.append((k, behind, met) if wanted else (k, met, behind))
            case node:
                tasks.extend(_parts_of(node, wanted, sent, behind)[::-1])
    return word


def _without_nots(source):
    """For each node, the node behind all nots, and whether it has the same truth.

    Otherwise a long row of nots would be walked through for each triple.
    """
    bases = []
    for at, node in enumerate(source):
        match node:
            case ("not", i):
                base, same = bases[i]
                bases.append((base, not same))
            case _:
                bases.append((at, True))
    return bases


def _parts_of(node, wanted, cycle, behind):
    """The tasks that together do the task of an and or an or, in order."""
    kind, i, j = node
    # An and is true if both are true; an or is false if both are false.
    both = kind == "and"
    if wanted != both:
        # Asked for the opposite, all points are sent by the cycle, and back ahead of it where it is not met.
        cycle, behind = inverted(cycle), joined(cycle, behind)
    first, second = two_cycles(cycle)
    return [(i, both, first, SAME), (j, both, second, SAME),
            (i, both, inverted(first), SAME), (j, both, inverted(second), behind)]


def effect(word, bits, point):
    """The point to which the word sends the point, for the bits."""
    if not _is_word(word):
        raise BadWord("this is not a word")
    if not is_below(point, POINTS):
        raise BadWord("the point is none")
    if not are_bits(bits, max([triple[0] + 1 for triple in word], default=0)):
        raise BadMemory("the bits are not a list of True and False with all bits that the word asks for")
    for k, zero, one in word:
        point = one[point] if bits[k] else zero[point]
    return point


def _is_word(word):
    if not isinstance(word, list) or len(word) > MOST_TRIPLES:
        return False
    return all([_is_triple(triple) for triple in word])


def _is_triple(triple):
    if not isinstance(triple, tuple) or len(triple) != 3:
        return False
    k, zero, one = triple
    return is_input(k) and is_permutation(zero) and is_permutation(one)
