"""Numbers as texts write them."""

FIGURES = "0123456789"
# No number that is asked for in a text has more.
MOST_FIGURES = 10


def number_in(word):
    """Tell the number that a word writes, without a nought ahead; None where it writes none."""
    # Python itself reads signs, blanks and noughts ahead as well.
    if not 1 <= len(word) <= MOST_FIGURES or not all([sign in FIGURES for sign in word]):
        return None
    if word[0] == "0" and word != "0":
        return None
    return int(word)
