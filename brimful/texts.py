"""Numbers in texts."""


def number_in(word, most_figures):
    """The number that the word writes without sign and leading zeros, or None if it writes none.

    A word of too many figures is none as well: it is never turned into an integer.
    """
    if len(word) > most_figures or not word.isascii() or not word.isdigit():
        return None
    if word[0] == "0" and len(word) > 1:
        return None
    return int(word)
