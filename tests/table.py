"""A second, slow reading of the document's moves, levels, paths and order of words, to compare
the program with.

It takes the table's rows as they are printed and tries every crossing and strand for their
letters. Words are tuples of (kind, strand), as in the program.
"""

KIND_OF_NAME = {"over": 0, "under": 1, "cup": 2, "cap": 3}
NEEDED = {0: 2, 1: 2, 2: 0, 3: 2}
LEFT = {0: 2, 1: 2, 2: 2, 3: 0}

ROWS = [
    (1, "X I, X' I", ""),
    (2, "cup I, X I", "cup I"),
    (3, "X I, cap I", "cap I"),
    (4, "cup I, cap I + 1", ""),
    (4, "cup I, cap I - 1", ""),
    (5, "X I, Y I + 1, Z I", "Z I + 1, Y I, X I + 1"),
    (6, "X I + 1, Y I, Z I + 1", "Z I, Y I + 1, X I"),
    (8, "cup I, X I + 1", "cup I + 1, X' I"),
    (9, "cup I + 1, X I", "cup I, X' I + 1"),
    (10, "X I, cap I + 1", "X' I + 1, cap I"),
    (11, "X I + 1, cap I", "X' I, cap I + 1"),
]


def filled(side, letters):
    """One side of a row, with the letters' values put in."""
    events = []
    for part in side.split(", ") if side else []:
        name, strand = part.split(" ", 1)
        if name.rstrip("'") in letters:
            kind = letters[name.rstrip("'")]
            kind = 1 - kind if name.endswith("'") else kind
        else:
            kind = KIND_OF_NAME[name]
        offset = {"I": 0, "I + 1": 1, "I - 1": -1}[strand]
        events.append((kind, letters["I"] + offset))
    return tuple(events)


def all_rules(highest):
    """All that the rows say for strands up to the highest: replaced events -> kinds, others."""
    rules = {}
    for kind, events, replacement in ROWS:
        for number in range(8 * highest):
            letters = {"X": number & 1, "Y": number >> 1 & 1, "Z": number >> 2 & 1,
                       "I": 1 + (number >> 3)}
            if kind in (5, 6) and letters["X"] == letters["Z"] != letters["Y"]:
                continue
            before = filled(events, letters)
            if all(strand >= 1 for _, strand in before):
                rules.setdefault(before, set()).add((kind, filled(replacement, letters)))
    return rules


RULES = all_rules(30)


def seventh(first, second):
    """Kind 7, in the document's words."""
    (e_kind, e), (f_kind, f) = first, second
    if f + NEEDED[f_kind] <= e:
        return (second, (e_kind, e + LEFT[f_kind] - NEEDED[f_kind]))
    if e + LEFT[e_kind] <= f:
        return ((f_kind, f + NEEDED[e_kind] - LEFT[e_kind]), first)
    return None


def moves(word):
    """All moves of a word, in order: (index, kind, word that is obtained)."""
    found = []
    for index in range(len(word)):
        for length in range(2, min(3, len(word) - index) + 1):
            for kind, others in RULES.get(word[index:index + length], ()):
                found.append((index, kind, word[:index] + others + word[index + length:]))
        if index + 1 < len(word):
            others = seventh(word[index], word[index + 1])
            if others is not None:
                found.append((index, 7, word[:index] + others + word[index + 2:]))
    return sorted(found, key=lambda move: move[:2])


def levels(word, count):
    """The levels 0 to `count`, each with its words in order."""
    found = [[word]]
    for level in range(count):
        following = []
        for earlier in found[level]:
            for _, _, later in moves(earlier):
                if not any(later in words for words in found) and later not in following:
                    following.append(later)
        found.append(following)
    return found


def place(ordered, word):
    """The level of a word and its position in it."""
    for level, words in enumerate(ordered):
        if word in words:
            return level, words.index(word)
    return None


def chain(ordered, word):
    """The words from level 0 to a word, over its predecessors."""
    level = place(ordered, word)[0]
    if level == 0:
        return [word]
    for earlier in ordered[level - 1]:
        if any(later == word for _, _, later in moves(earlier)):
            return chain(ordered, earlier) + [word]
    raise AssertionError("no predecessor")


def path(first, second, count):
    """The words of the path and the position of the meeting point, or None."""
    ours, theirs = levels(first, count), levels(second, count)
    both = [word for words in ours for word in words if place(theirs, word)]
    if not both:
        return None
    meeting = min(both, key=lambda word: (
        place(ours, word)[0] + place(theirs, word)[0], place(ours, word)))
    there = chain(ours, meeting)
    return there + chain(theirs, meeting)[-2::-1], len(there) - 1


def smaller(one, other):
    """Whether a word is smaller than another, in the document's words."""
    if len(one) != len(other):
        return len(one) < len(other)
    order = ["over", "under", "cup", "cap"]
    for (kind, strand), (other_kind, other_strand) in zip(one, other):
        names = [name for name in order if KIND_OF_NAME[name] in (kind, other_kind)]
        if len(names) == 2:
            return KIND_OF_NAME[names[0]] == kind
        if strand != other_strand:
            return strand < other_strand
    return False


def smallest(words):
    """The one that is smaller than all others."""
    found = [word for word in words if all(smaller(word, other) for other in words if other != word)]
    if len(found) != 1:
        raise AssertionError("not one smallest word")
    return found[0]


def events_at(strands):
    """All events that are possible at so many strands."""
    crossings = [(kind, strand) for kind in (0, 1) for strand in range(1, strands)]
    cups = [(2, strand) for strand in range(1, strands + 2)]
    return crossings + cups + [(3, strand) for strand in range(1, strands)]


def all_words(strands, length):
    """All words of a length that begin at so many strands."""
    if length == 0:
        return [()]
    words = []
    for kind, strand in events_at(strands):
        rest = strands + LEFT[kind] - NEEDED[kind]
        words.extend([((kind, strand),) + word for word in all_words(rest, length - 1)])
    return words
