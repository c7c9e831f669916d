"""Values and calls that several tests use."""

from fourwalls.books import Book

LINES = (
    ("a", ".", ".", ".", "A", "|ab"),
    (".", ".", ".", ".", "A", "|ba"),
    (".", ".", ".", ".", "B", "-ba"),
)

# The book of the examples: one cutter cuts upright, the other one level.
CROSS = Book("ab", "AB", (".", ".", ".", ".", "A", "|ab"), (".", ".", ".", ".", "B", "-ba"))


def any_values():
    """Return values of every kind that a caller may pass for a wrong argument."""
    return [
        -1, 0, 1, 2, 999999999999999999, -999999999999999999, True, False, None,
        "", " ", "a", "A", ".", "-", "|", "aaaa", "no\nrow", "~" * 4000,
        [], (), [[]], ((),), [1], (1,), ["a"], ("a",), [True], (None,), ["aaaa", "A"], ("", "A"), ["", "A"],
        ("", ["A"]), ([""], "A"), (("",), "A"), (["a", ("b", [1, (True, [None])])],), [[[[[[1]]]]]],
        Book("ab", "A"), (Book("ab", "A"),), [Book("ab", "A"), 1],
    ]


def raised(call, *given, **named):
    """Return the error that a call raises; fail if it raises none."""
    try:
        call(*given, **named)
    except Exception as error:
        return error
    raise AssertionError("nothing was raised")


def told(error):
    """Return the name of an error's class and its own attributes without the code."""
    return error.__class__.__name__, {name: value for name, value in vars(error).items() if name != "code"}
