"""Bits: lists of True and False."""


def are_bits(values, least):
    """Whether the values are a list of True and False with at least so many bits."""
    if not isinstance(values, list) or len(values) < least:
        return False
    return all([isinstance(value, bool) for value in values])
