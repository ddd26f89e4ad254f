"""Rows of terms: values, each of which holds from a day on."""


def pair_held(terms, day):
    """Give the pair (first, value) that holds on a day, or None."""
    best = None
    for pair in terms:
        if pair[0] > day:
            continue
        # Of pairs with the same first the later one in the row holds.
        if best is None or pair[0] >= best[0]:
            best = pair
    return best


def held(terms, day):
    """Give the value that holds on a day, or None."""
    pair = pair_held(terms, day)
    if pair is None:
        return None
    return pair[1]
