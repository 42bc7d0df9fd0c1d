"""Colorings: how many ways there are to color the strands of a tangle.

All colors of a coloring are sums of multiples of those that are chosen, one for each strand at the
top and one for each cup. So a color is kept as the list of these multiples, and a cap asks that a
difference of two such sums is 0 for the colors that were chosen.
"""

from tanglemoves.events import CAP, CUP, OVER, cup_count


def coloring_count(tangle, colors):
    """How many colorings a tangle has with a number of colors that is a prime."""
    bound = independent_count(differences_at_caps(tangle, colors), colors)
    return power(colors, choice_count(tangle) - bound)


def choice_count(tangle):
    """How many colors determine a coloring."""
    return tangle.top + cup_count(tangle.word)


def power(base, exponent):
    """A number to the power of another."""
    result = 1
    for factor in range(exponent):
        result = result * base
    return result


def differences_at_caps(tangle, colors):
    """For each cap the difference of the colors of its strands."""
    choices = choice_count(tangle)
    row = [chosen(place, choices) for place in range(tangle.top)]
    newest = tangle.top
    differences = []
    for kind, strand in tangle.word:
        before = row[:strand - 1]
        if kind == CUP:
            row = before + [chosen(newest, choices)] * 2 + row[strand - 1:]
            newest += 1
        elif kind == CAP:
            differences.append(combined(1, row[strand - 1], -1, row[strand], colors))
            row = before + row[strand + 1:]
        else:
            row = before + crossed(kind, row[strand - 1], row[strand], colors) + row[strand + 1:]
    return differences


def chosen(place, choices):
    """The color that is chosen at a place among so many."""
    return [1 if other == place else 0 for other in range(choices)]


def combined(times, one, others, other, colors):
    """So many times one color and so many times another."""
    return [(times * here + others * there) % colors for here, there in zip(one, other)]


def crossed(kind, one, other, colors):
    """The colors of two strands behind a crossing."""
    if kind == OVER:
        return [combined(2, one, -1, other, colors), one]
    return [other, combined(2, other, -1, one, colors)]


def independent_count(differences, colors):
    """How many of the differences are not 0 already where those before them are."""
    kept = []
    for difference in differences:
        rest = difference
        for earlier in kept:
            rest = cleared(rest, earlier, colors)
        if any(rest):
            kept.append(rest)
    return len(kept)


def cleared(difference, earlier, colors):
    """A difference without the first choice of an earlier one, which that one decides."""
    place = first_place(earlier)
    return combined(earlier[place], difference, -difference[place], earlier, colors)


def first_place(difference):
    """The place of the first choice on which a difference depends."""
    place = 0
    while difference[place] == 0:
        place += 1
    return place
