"""Numbers and lists of numbers in texts."""

EMPTY = "-"


def number_in(word, most_figures):
    """The number that the word writes without sign and leading zeros, or None if it writes none.

    A word of too many figures is none as well: it is never turned into an integer.
    """
    if len(word) > most_figures or not word.isascii() or not word.isdigit():
        return None
    if word[0] == "0" and len(word) > 1:
        return None
    return int(word)


def numbers_in(word, most_figures):
    """The list that the word writes with commas; None stands in it for each part that is no number."""
    if word == EMPTY:
        return []
    return [number_in(part, most_figures) for part in word.split(",")]


def written(numbers):
    """The word that writes the list with commas."""
    return ",".join([f"{number}" for number in numbers])
