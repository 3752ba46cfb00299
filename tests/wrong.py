"""Wrong values for every place of a nested value of lists and tuples."""

# True is no integer, and no integer, word, node, step or factor is one of these.
NEVER_RIGHT = (True, False, None, "", "0", "add", b"cell", 1.0, -1, {}, [0], (0,), ((),), [()], 10 ** 30)


def places(value, path=()):
    """The paths to all parts of a nested value, the value itself left out."""
    found = []
    if isinstance(value, (list, tuple)):
        for at, part in enumerate(value):
            found.append(path + (at,))
            found.extend(places(part, path + (at,)))
    return found


def part_at(value, path):
    for at in path:
        value = value[at]
    return value


def replaced(value, path, new):
    """A copy of the nested value with something else at the path."""
    if not path:
        return new
    parts = list(value)
    parts[path[0]] = replaced(parts[path[0]], path[1:], new)
    return parts if isinstance(value, list) else tuple(parts)


def with_wrong_values(value):
    """Copies of the nested value, each with another wrong value at one place."""
    for path in places(value):
        for wrong in NEVER_RIGHT:
            if wrong != part_at(value, path) or isinstance(wrong, (bool, float)):
                yield replaced(value, path, wrong)


def with_lists_for_tuples(value):
    """Copies of the nested value, each with a list for one of its tuples or the other way round, itself included."""
    for path in [()] + places(value):
        part = part_at(value, path)
        if isinstance(part, tuple):
            yield replaced(value, path, list(part))
        elif isinstance(part, list):
            yield replaced(value, path, tuple(part))


def with_more_or_less(value):
    """Copies of the nested value, each with one of the tuples in it a part longer or shorter, itself excepted."""
    for path in places(value):
        part = part_at(value, path)
        if isinstance(part, tuple):
            for more in (0, None, "add"):
                yield replaced(value, path, part + (more,))
                yield replaced(value, path, (more,) + part)
            yield replaced(value, path, part[:-1])
            yield replaced(value, path, part[1:])
            yield replaced(value, path, ())
