"""The errors with which Rentroll refuses."""


class RentError(ValueError):
    """What is told or asked is refused."""


class BadDay(RentError):
    """No such day, or no such month."""


class BadFlat(RentError):
    """No text that names a flat."""


class BadAmount(RentError):
    """No amount that may stand there."""


class NoLease(RentError):
    """No number of a lease."""


class Taken(RentError):
    """Another lease of the flat stands in the way."""


class Full(RentError):
    """There are as many leases as there may be."""


class Done(RentError):
    """What is told was done before."""
