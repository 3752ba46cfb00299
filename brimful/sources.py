"""Sources: which tuples are sources, their values, costs and textual form."""

from brimful.errors import BadMemory, BadSource, BadStep, BadText
from brimful.nodes import are_before, are_nodes, inputs_needed, is_input
from brimful.numbers import are_numbers, is_below, is_modulus
from brimful.texts import number_in

CONSTANTS_END = 1000000000
# Neither a constant nor an index of a source has more.
MOST_FIGURES = 9


def check_source(source):
    """Returns None, or raises BadSource for what is not a source."""
    if not _is_source(source):
        raise BadSource("this is not a source")


def _is_source(source):
    if not are_nodes(source):
        return False
    return all([_is_node(node, at) for at, node in enumerate(source)])


def _is_node(node, at):
    """Whether this tuple is a node that may stand at the index."""
    match node:
        case ("const", c):
            return is_below(c, CONSTANTS_END)
        case ("input", k):
            return is_input(k)
        case ("sum", i, j):
            return are_before(at, i, j)
        case ("product", i, j):
            return are_before(at, i, j)
        case ("scaled", c, i):
            return is_below(c, CONSTANTS_END) and are_before(at, i)
        case ("choose", i, j, other):
            return are_before(at, i, j, other)
        case _:
            return False


def needs(source):
    """The number of inputs that the source needs."""
    check_source(source)
    return inputs_needed(source)


def meaning(source, modulus, given):
    """The value of the source for the given inputs."""
    check_source(source)
    if not is_modulus(modulus):
        raise BadStep("the modulus is none")
    if not are_numbers(given, inputs_needed(source), modulus):
        raise BadMemory("the inputs are not as many numbers as the source needs")
    values = []
    for node in source:
        values.append(_value_of(node, values, given) % modulus)
    return values[-1]


def _value_of(node, values, given):
    """The value of a node, given those of the nodes before it; it may lie beyond the modulus."""
    match node:
        case ("const", c):
            return c
        case ("input", k):
            return given[k]
        case ("sum", i, j):
            return values[i] + values[j]
        case ("product", i, j):
            return values[i] * values[j]
        case ("scaled", c, i):
            return c * values[i]
        case ("choose", i, j, other):
            return values[other] + values[i] * (values[j] - values[other])


def cost(source):
    """The number of steps of the program for the source, however great it is."""
    check_source(source)
    costs = []
    for node in source:
        costs.append(_cost_of(node, costs))
    return costs[-1]


def _cost_of(node, costs):
    match node:
        case ("sum", i, j):
            return costs[i] + costs[j]
        case ("product", i, j):
            return 2 * (costs[i] + costs[j])
        case ("scaled", _, i):
            return costs[i]
        case ("choose", i, j, other):
            return costs[other] + 2 * (costs[i] + costs[j] + costs[other])
        case _:
            return 1


def format_source(source):
    """The textual form of the source."""
    check_source(source)
    return "; ".join([_format_node(node) for node in source])


def _format_node(node):
    match node:
        case ("const", c):
            return f"{c}"
        case ("input", k):
            return f"${k}"
        case ("sum", i, j):
            return f"#{i} + #{j}"
        case ("product", i, j):
            return f"#{i} * #{j}"
        case ("scaled", c, i):
            return f"{c} * #{i}"
        case ("choose", i, j, other):
            return f"#{i} ? #{j} : #{other}"


def parse_source(text):
    """The source with this textual form; raises BadText if there is none."""
    if not isinstance(text, str):
        raise BadText("only a string can be the textual form of a source")
    # A part that cannot be read leaves None somewhere, so that the whole is no source.
    source = tuple([_read_node(part) for part in text.split("; ")])
    if not _is_source(source):
        raise BadText("this is not the textual form of a source")
    return source


def _read_node(text):
    words = text.split(" ")
    match words:
        case [word]:
            return _read_leaf(word)
        case [left, "+", right]:
            return ("sum", _read_index("#", left), _read_index("#", right))
        case [left, "*", right]:
            if left.startswith("#"):
                return ("product", _read_index("#", left), _read_index("#", right))
            return ("scaled", number_in(left, MOST_FIGURES), _read_index("#", right))
        case [chooser, "?", one, ":", other]:
            return ("choose", _read_index("#", chooser), _read_index("#", one), _read_index("#", other))
        case _:
            return None


def _read_leaf(word):
    if word.startswith("$"):
        return ("input", _read_index("$", word))
    return ("const", number_in(word, MOST_FIGURES))


def _read_index(sign, word):
    """The number behind the sign, or None."""
    if not word.startswith(sign):
        return None
    return number_in(word[1:], MOST_FIGURES)
