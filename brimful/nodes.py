"""What sources and Boolean sources have in common: nodes that refer to nodes before them, and inputs."""

from brimful.numbers import is_below

MOST_NODES = 200
MOST_INPUTS = 60


def are_nodes(source):
    """Whether this is a tuple of tuples, as many as a source may have."""
    if not isinstance(source, tuple) or not 1 <= len(source) <= MOST_NODES:
        return False
    return all([isinstance(node, tuple) for node in source])


def is_input(k):
    """Whether a node may ask for the input, or a word for the bit, with this index."""
    return is_below(k, MOST_INPUTS)


def are_before(at, *references):
    """Whether the node at this index may refer to all these nodes."""
    return all([is_below(reference, at) for reference in references])


def inputs_needed(source):
    """One more than the greatest index of an input that a node asks for, or 0."""
    return max([node[1] + 1 for node in source if node[0] == "input"], default=0)
