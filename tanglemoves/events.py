"""Events: an event is a pair, its kind and its strand; a word is a tuple of events."""

OVER = 0
UNDER = 1
CUP = 2
CAP = 3

KIND_OF_NAME = {"over": 0, "under": 1, "cup": 2, "cap": 3}

# Each at the place of its kind.
STRANDS_NEEDED = (2, 2, 0, 2)
STRANDS_LEFT = (2, 2, 2, 0)
MIRRORED_KINDS = (1, 0, 2, 3)
TURNED_KINDS = (1, 0, 3, 2)


def is_crossing(kind):
    """Whether events of this kind are crossings."""
    return kind < CUP


def other_crossing(kind):
    """The other kind of crossing."""
    return OVER if kind == UNDER else UNDER


def needed(kind):
    """How many strands an event of this kind needs."""
    return STRANDS_NEEDED[kind]


def left(kind):
    """How many strands an event of this kind leaves."""
    return STRANDS_LEFT[kind]


def crossing_count(word):
    """How many events of a word are crossings."""
    return len([kind for kind, strand in word if is_crossing(kind)])


def cup_count(word):
    """How many events of a word are cups."""
    return len([kind for kind, strand in word if kind == CUP])


def size(word):
    """By what words are ordered: their lengths, then event by event kinds and strands."""
    return (len(word), word)


def event_exists(kind, strand, strands):
    """Whether an event at a strand, 1 or more, is possible where there are so many strands."""
    if kind == CUP:
        return strand <= strands + 1
    return strand + 1 <= strands


def shifted(word, places):
    """A word with all its events so many strands further to the right."""
    return [(kind, strand + places) for kind, strand in word]
