"""What a roll asks of the things that are told to it; days are looked at in rentroll.days."""

from rentroll.days import is_within
from rentroll.errors import BadAmount, BadFlat

LONGEST_FLAT = 8


def check_flat(flat):
    """Refuse what is no flat."""
    if not _is_flat(flat):
        raise BadFlat("no text of one to eight small letters")


def check_amount(amount, low, high):
    """Refuse what is no whole number from low to high."""
    if not is_within(amount, low, high):
        raise BadAmount(f"no whole number from {low} to {high}")


def _is_flat(thing):
    if not isinstance(thing, str) or not 1 <= len(thing) <= LONGEST_FLAT:
        return False
    return all("a" <= sign <= "z" for sign in thing)
