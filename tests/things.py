"""Things that are no numbers, no flats, or numbers far out: what a caller may hand in."""


class Contrary:
    """A thing that can't be compared, measured or shown."""

    def refuse(self, *told):
        raise RuntimeError("looked at")

    __eq__ = __lt__ = __le__ = __gt__ = __ge__ = refuse
    __hash__ = __len__ = __bool__ = __index__ = __int__ = __repr__ = __str__ = refuse


def no_numbers():
    return [
        ("True", True), ("False", False), ("text", "1"), ("empty text", ""), ("word", "May"),
        ("None", None), ("tuple", (1,)), ("empty tuple", ()), ("list", [1]), ("dict", {1: 1}),
        ("set", {1}), ("bytes", b"1"), ("range", range(2)), ("object", object()),
        ("class", int), ("function", len), ("contrary", Contrary()),
    ]


def far_numbers():
    # Python itself refuses to write out numbers as long as these.
    return [("far ahead", -(10 ** 6000)), ("far behind", 10 ** 6000)]


def no_days():
    told = [(str(day), day) for day in (-1, -2, 100000, 100001, 10 ** 9)]
    return told + no_numbers() + far_numbers()


def no_leases(many):
    """Things that are no number of a lease, where there are so many leases."""
    told = [(str(number), number) for number in (-1, -many - 1, many, many + 1, 10 ** 9)]
    return told + no_numbers() + far_numbers()


def no_amounts(low, high):
    told = [low - 1, low - 2, high + 1, high + 2, -high, 10 * high, 10 ** 12, -(10 ** 12)]
    return [(str(amount), amount) for amount in told] + no_numbers() + far_numbers()


def no_flats():
    texts = [
        "", "abcdefghi", "a" * 9, "a" * 1000, "A", "Ab", "aB", "a1", "1", "1a", " ", " a", "a ",
        "a b", "a-b", "a_b", "a.", "a\n", "\n", "a\x00", "`", "{", "\xe4", "a\xe9", "\u0430", "\xdf",
        "\uff41", "\xaa", "a\u0301", "\U0001d41a",
    ]
    others = [True, False, 5, 0, -1, None, (), ("a",), [], ["a"], {}, {"a": 1}, {"a"}, b"a", object(), str]
    named = [(ascii(text), text) for text in texts] + [(repr(thing), thing) for thing in others]
    return named + [("contrary", Contrary())]
