"""Signs: which ones are special in a pattern, and which ones a take takes."""

SPECIAL = "()|*?.[]~!"


def takes(inside, signs, sign):
    """Tell whether a take with this inside and these signs takes the sign."""
    return (sign in signs) == inside
