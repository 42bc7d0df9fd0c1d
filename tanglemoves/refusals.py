"""The errors of the document: of a whole call, and of a single line of a program text."""


class Refusal(Exception):
    """A failed call. Its code is all that the call answers."""

    def __init__(self, code):
        Exception.__init__(self, code)
        self.code = code


class NotLoaded(Refusal):
    """One of the two tangles has not been loaded."""

    def __init__(self):
        Refusal.__init__(self, -7)


class OutOfRange(Refusal):
    """An argument is out of range, or the text is invalid."""

    def __init__(self):
        Refusal.__init__(self, -2)


class NoSuchWord(Refusal):
    """The path has no word at this position."""

    def __init__(self):
        Refusal.__init__(self, -3)


class TopsDiffer(Refusal):
    """The numbers of strands at the top differ."""

    def __init__(self):
        Refusal.__init__(self, -4)


class TooManyWords(Refusal):
    """The levels are too large."""

    def __init__(self):
        Refusal.__init__(self, -8)


class FaultyText(Refusal):
    """A program text has an error on one of its lines."""

    def __init__(self, line, fault):
        Refusal.__init__(self, -(100 * line + fault + 10))


class LineFault(Exception):
    """An error on a line of a text, by its code in the document, 1 to 6."""

    def __init__(self, fault):
        Exception.__init__(self, fault)
        self.fault = fault


class NotWellFormed(LineFault):
    """The line is not well-formed, or not allowed where it stands."""

    def __init__(self):
        LineFault.__init__(self, 1)


class WrongName(LineFault):
    """The name is already used, or there is no tangle with this name."""

    def __init__(self):
        LineFault.__init__(self, 2)


class NoSuchStrand(LineFault):
    """The strands do not exist."""

    def __init__(self):
        LineFault.__init__(self, 3)


class WrongRepeat(LineFault):
    """`again` or `end` does not fit the repeats that are open."""

    def __init__(self):
        LineFault.__init__(self, 4)


class OverLimit(LineFault):
    """A limit on tangles, events, strands or nested repeats is exceeded."""

    def __init__(self):
        LineFault.__init__(self, 5)


class Unfinished(LineFault):
    """The text ends inside a tangle, or there is no tangle."""

    def __init__(self):
        LineFault.__init__(self, 6)
