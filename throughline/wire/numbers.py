"""Numbers in decimal digits (points 131 and 139)."""


def read_decimal(word, most):
    """Returns the number that is written as the word, with at most so many digits; None if there is none."""
    if len(word) > most or not word.isascii() or not word.isdigit():
        return None
    if word != "0" and word[0] == "0":
        return None
    return int(word)
