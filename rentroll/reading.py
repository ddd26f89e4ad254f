"""Letters that were kept, told to a new roll."""

from rentroll.errors import RentError
from rentroll.rolls import Roll


def roll_of(letters):
    """Give a roll to which these letters were told one by one."""
    roll = Roll()
    for letter in letters:
        _tell(roll, letter)
    return roll


def _tell(roll, letter):
    match letter:
        case ("let", flat, first, rent, indexed):
            roll.let(flat, first, rent, indexed)
        case ("end", lease, last):
            roll.end(lease, last)
        case ("step", lease, first, rent):
            roll.step(lease, first, rent)
        case ("gauge", first, number):
            roll.gauge(first, number)
        case ("rate", first, hundredths):
            roll.rate(first, hundredths)
        case ("paid", lease, day, cents):
            roll.paid(lease, day, cents)
        case ("kept", lease, day, cents):
            roll.kept(lease, day, cents)
        case ("close", lease, day):
            roll.close(lease, day)
        case ("bill", day):
            roll.bill(day)
        case _:
            raise RentError("no such letter")
