"""Comparing two tangles by what no move changes."""

from tanglemoves.colorings import choice_count, coloring_count, power
from tanglemoves.components import (closed_count, components_of_ends, ends_together, sorted_linkings,
                                    weave_of)

MOST_CHOICES = 3000


def number_of_difference(first, second):
    """The number of the first difference between two tangles, or 0."""
    if first.top != second.top or first.bottom != second.bottom:
        return 1
    ours = weave_of(first)
    theirs = weave_of(second)
    if shape(ours, first.top) != shape(theirs, second.top):
        return 2
    if sorted_linkings(ours) != sorted_linkings(theirs):
        return 3
    if colorings_differ(first, second, 3):
        return 4
    if colorings_differ(first, second, 5):
        return 5
    return 0


def shape(weave, top):
    """Which ends belong together, and how many components are closed."""
    ends = components_of_ends(weave, top)
    return (ends_together(ends), closed_count(weave, ends))


def colorings_differ(first, second, colors):
    """Whether two tangles have different numbers of colorings, if these are compared at all."""
    if too_many_choices(first, colors) or too_many_choices(second, colors):
        return False
    return coloring_count(first, colors) != coloring_count(second, colors)


def too_many_choices(tangle, colors):
    """Whether a tangle has so many strands and cups that its colorings are not compared."""
    return power(colors, choice_count(tangle)) > MOST_CHOICES
