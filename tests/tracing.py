"""A second, slow reading of the document's components, linkings and colorings, to compare the
program with.

It walks along every component from strand to strand, and tries every color. A strand is a pair: how
many events are above it, and its number from the left, counted from 0. Words are as in table.py.
"""

import itertools

from tests.table import LEFT, NEEDED

DOWN, UP = "down", "up"


def rows(top, word):
    """How many strands there are before the first event, and after each one."""
    counts = [top]
    for kind, _ in word:
        counts.append(counts[-1] - NEEDED[kind] + LEFT[kind])
    return counts


def through(word, index, number, direction):
    """The number of a strand on the other side of an event, or None if it ends or begins there."""
    kind, strand = word[index]
    at = (strand - 1, strand)
    if kind < 2:
        return at[1 - at.index(number)] if number in at else number
    bend = DOWN if kind == 3 else UP
    if direction == bend and number in at:
        return None
    return number - 2 if direction == bend and number > at[1] else (
        number + 2 if direction != bend and number >= at[0] else number)


def step(word, strand, direction):
    """The strand and the direction that follow on a walk, or None at an end."""
    height, number = strand
    index = height if direction == DOWN else height - 1
    if index < 0 or index == len(word):
        return None
    behind = through(word, index, number, direction)
    if behind is not None:
        return (height + (1 if direction == DOWN else -1), behind), direction
    place = word[index][1] - 1
    return (height, 2 * place + 1 - number), (UP if direction == DOWN else DOWN)


def walk(word, strand, direction):
    """All strands of a component with their directions, from an end or once around."""
    found = {}
    while strand not in found:
        found[strand] = direction
        following = step(word, strand, direction)
        if following is None:
            break
        strand, direction = following
    return found


def components(top, word):
    """All components, the open ones first, each as its strands with their directions."""
    counts = rows(top, word)
    starts = [((0, number), DOWN) for number in range(top)]
    starts += [((len(word), number), UP) for number in range(counts[-1])]
    starts += [((height, number), DOWN) for height, count in enumerate(counts) for number in range(count)]
    found = []
    for strand, direction in starts:
        if not any(strand in component for component in found):
            found.append(walk(word, strand, direction))
    if sum(len(component) for component in found) != sum(counts):
        raise AssertionError("a strand is in two components or in none")
    return found


def ends(top, word):
    """The sets of ends that belong together, and the number of closed components."""
    bottom = rows(top, word)[-1]
    together, closed = set(), 0
    for component in components(top, word):
        own = [number for number in range(top) if (0, number) in component]
        own += [100 + number for number in range(bottom) if (len(word), number) in component]
        if own:
            together.add(tuple(own))
        else:
            closed += 1
    return together, closed


def linkings(top, word):
    """The sorted linkings of all pairs of components."""
    found = []
    for one, other in itertools.combinations(components(top, word), 2):
        total = 0
        for height, (kind, strand) in enumerate(word):
            left, right = (height, strand - 1), (height, strand)
            if kind < 2 and (left in one and right in other or left in other and right in one):
                same = (one.get(left) or other.get(left)) == (one.get(right) or other.get(right))
                total += 1 if same == (kind == 0) else -1
        found.append(abs(total))
    return sorted(found)


def cups(word):
    return len([kind for kind, _ in word if kind == 2])


def is_coloring(top, word, colors, chosen):
    """Whether the chosen colors, of the strands at the top and the cups, are those of a coloring."""
    row, rest = list(chosen[:top]), list(chosen[top:])
    for kind, strand in word:
        left, right = row[strand - 1:strand] or [None], row[strand:strand + 1] or [None]
        if kind == 0:
            row[strand - 1:strand + 1] = [(2 * left[0] - right[0]) % colors, left[0]]
        elif kind == 1:
            row[strand - 1:strand + 1] = [right[0], (2 * right[0] - left[0]) % colors]
        elif kind == 2:
            row[strand - 1:strand - 1] = [rest[0], rest.pop(0)]
        else:
            if left != right:
                return False
            del row[strand - 1:strand + 1]
    return True


def colorings(top, word, colors):
    """The number of colorings, each of which is tried."""
    tried = itertools.product(range(colors), repeat=top + cups(word))
    return len([chosen for chosen in tried if is_coloring(top, word, colors, chosen)])


def difference(top, first, other_top, second):
    """The number of the first difference, in the document's words."""
    if top != other_top or rows(top, first)[-1] != rows(other_top, second)[-1]:
        return 1
    if ends(top, first) != ends(top, second):
        return 2
    if linkings(top, first) != linkings(top, second):
        return 3
    for result, colors in ((4, 3), (5, 5)):
        if all(colors ** (top + cups(word)) <= 3000 for word in (first, second)):
            if colorings(top, first, colors) != colorings(top, second, colors):
                return result
    return 0
