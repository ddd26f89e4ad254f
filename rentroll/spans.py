"""Rows of terms over many days: the spans of days on which one pair holds."""


def in_order(terms):
    """Give the pairs of a row that hold on some day, by their firsts."""
    values = {}
    for first, value in terms:
        # A later pair about the same first day takes the earlier one's place.
        values[first] = value
    return sorted(values.items())


def spans(terms, first, last):
    """Give in order, from one day through another one, tuples (begin, end, pair) of who holds.

    Days on which no pair holds are in no span.
    """
    found = []
    end = last
    for pair in reversed(in_order(terms)):
        begin = max(pair[0], first)
        if begin <= end:
            found.append((begin, end, pair))
            end = begin - 1
    return found[::-1]
