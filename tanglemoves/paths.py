"""Paths from one tangle's word to another's, over a word that is reached from both."""

from tanglemoves.levels import words_in_both


def meeting_point(first, second):
    """The word where the ways from both tangles meet, or None if none is reached from both."""
    meeting = None
    least = 0
    # The first tangle's words come level by level, so of equal sums the first one counts.
    for word in words_in_both(first, second):
        levels = first.levels[word] + second.levels[word]
        if meeting is None or levels < least:
            meeting = word
            least = levels
    return meeting


def way_back(reached, word):
    """The words from a reached word back to the one that all are reached from."""
    way = []
    while word is not None:
        way.append(word)
        word = reached.predecessors[word]
    return way


def path_over(meeting, first, second):
    """The path from the first tangle's word over the meeting point to the second's."""
    path = way_back(first, meeting)
    path.reverse()
    return path + way_back(second, meeting)[1:]
