"""Words as the tests write them, `over 1/cup 2`, and as the program keeps them."""

from tests.table import KIND_OF_NAME


def word(lines):
    """The tuple of events that these lines are."""
    pairs = [line.split() for line in lines.split("/")] if lines else []
    return tuple((KIND_OF_NAME[name], int(strand)) for name, strand in pairs)


def lines(events):
    """The lines that stand for these events."""
    names = ("over", "under", "cup", "cap")
    return "/".join("%s %d" % (names[kind], strand) for kind, strand in events)
