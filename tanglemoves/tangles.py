"""Tangles: finished ones, reflected and turned ones, and those of which lines are still read."""

from tanglemoves.events import CUP, MIRRORED_KINDS, TURNED_KINDS, left, needed
from tanglemoves.refusals import OverLimit

MOST_EVENTS = 60
MOST_STRANDS = 12


class Tangle:
    """A finished tangle: its numbers of strands at the top and at the bottom, and its word."""

    def __init__(self, top, bottom, word):
        self.top = top
        self.bottom = bottom
        self.word = word


class Draft:
    """A tangle of which some lines have been read."""

    def __init__(self, name, top):
        self.name = name
        self.top = top
        self.strands = top
        self.events = []
        self.repeats = []

    def add_events(self, added):
        """Adds events, the strands of which exist, as far as the limits allow."""
        if len(self.events) + len(added) > MOST_EVENTS:
            raise OverLimit()
        for kind, strand in added:
            self.strands = self.strands + left(kind) - needed(kind)
            if self.strands > MOST_STRANDS:
                raise OverLimit()
            self.events.append((kind, strand))

    def finished(self):
        """The tangle of the lines that have been read."""
        return Tangle(self.top, self.strands, tuple(self.events))


class Repeat:
    """An open repeat: how often, from which event on, and the number of strands at its start."""

    def __init__(self, times, start, strands):
        self.times = times
        self.start = start
        self.strands = strands


def mirrored(tangle):
    """A tangle reflected left to right."""
    strands = tangle.top
    events = []
    for kind, strand in tangle.word:
        # A cup stands between strands, so there is a place more for it than for the others.
        places = strands + 2 if kind == CUP else strands
        events.append((MIRRORED_KINDS[kind], places - strand))
        strands = strands + left(kind) - needed(kind)
    return Tangle(tangle.top, tangle.bottom, tuple(events))


def turned(tangle):
    """A tangle turned upside down."""
    events = [(TURNED_KINDS[kind], strand) for kind, strand in reversed(tangle.word)]
    return Tangle(tangle.bottom, tangle.top, tuple(events))
