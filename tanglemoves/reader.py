"""Reading a program text: line by line, up to its main tangle or its first error."""

from tanglemoves.events import KIND_OF_NAME, event_exists, shifted
from tanglemoves.refusals import (FaultyText, LineFault, NoSuchStrand, NotWellFormed, OverLimit,
                                  Unfinished, WrongName, WrongRepeat)
from tanglemoves.tangles import MOST_STRANDS, Draft, Repeat, mirrored, turned
from tanglemoves.texts import check_text, lines_of, name_in, number_in

MOST_TANGLES = 12
MOST_REPEATS = 4
MOST_TIMES = 12
LARGEST_NUMBER = 99


class Book:
    """What the lines that have been read define."""

    def __init__(self):
        self.tangles = {}
        self.main = None
        self.draft = None


def main_tangle(text):
    """The main tangle of a text, which is a list of numbers."""
    check_text(text)
    lines = lines_of(text)
    book = Book()
    line = 0
    try:
        for words in lines:
            line += 1
            if words:
                read_line(book, words)
        # Behind the last line, so that a text that ends too early is reported there.
        line += 1
        check_finished(book)
    except LineFault as found:
        raise FaultyText(line, found.fault) from None
    return book.main


def check_finished(book):
    """Refuses a text that ends inside a tangle or has none."""
    if book.draft is not None or book.main is None:
        raise Unfinished()


def read_line(book, words):
    """Reads a line that has words."""
    first = words[0]
    if first == "tie":
        read_tie(book, words)
    elif book.draft is None:
        raise NotWellFormed()
    elif first in KIND_OF_NAME:
        read_event(book.draft, words)
    elif first == "use":
        read_use(book, words)
    elif first == "repeat":
        read_repeat(book.draft, words)
    elif first == "again":
        read_again(book.draft, words)
    elif first == "end":
        read_end(book, words)
    else:
        raise NotWellFormed()


def check_length(words, length):
    """Refuses a line with another number of words."""
    if len(words) != length:
        raise NotWellFormed()


def strand_in(word):
    """The strand number that a word is."""
    return number_in(word, 1, LARGEST_NUMBER)


def read_tie(book, words):
    """Begins a tangle."""
    check_length(words, 3)
    name = name_in(words[1])
    top = number_in(words[2], 0, MOST_STRANDS)
    if book.draft is not None:
        raise NotWellFormed()
    if name in book.tangles:
        raise WrongName()
    if len(book.tangles) == MOST_TANGLES:
        raise OverLimit()
    book.draft = Draft(name, top)


def read_event(draft, words):
    """Adds a crossing, a cup or a cap."""
    check_length(words, 2)
    kind = KIND_OF_NAME[words[0]]
    strand = strand_in(words[1])
    if not event_exists(kind, strand, draft.strands):
        raise NoSuchStrand()
    draft.add_events([(kind, strand)])


def read_use(book, words):
    """Adds the events of a tangle that was defined before."""
    way = ""
    if len(words) == 4:
        way = words[3]
        if way != "mirror" and way != "turned":
            raise NotWellFormed()
    else:
        check_length(words, 3)
    name = name_in(words[1])
    strand = strand_in(words[2])
    if name not in book.tangles:
        raise WrongName()
    tangle = book.tangles[name]
    if way == "mirror":
        tangle = mirrored(tangle)
    elif way == "turned":
        tangle = turned(tangle)
    # With these strands, those of all its events exist too.
    if book.draft.strands < strand - 1 + tangle.top:
        raise NoSuchStrand()
    book.draft.add_events(shifted(tangle.word, strand - 1))


def read_repeat(draft, words):
    """Opens a repeat."""
    check_length(words, 2)
    times = number_in(words[1], 1, MOST_TIMES)
    if len(draft.repeats) == MOST_REPEATS:
        raise OverLimit()
    draft.repeats.append(Repeat(times, len(draft.events), draft.strands))


def read_again(draft, words):
    """Ends a repeat: its lines have added its events once, the other times are added here."""
    check_length(words, 1)
    if not draft.repeats:
        raise WrongRepeat()
    ended = draft.repeats.pop()
    if draft.strands != ended.strands:
        raise WrongRepeat()
    draft.add_events(draft.events[ended.start:] * (ended.times - 1))


def read_end(book, words):
    """Ends a tangle."""
    check_length(words, 1)
    if book.draft.repeats:
        raise WrongRepeat()
    book.main = book.draft.finished()
    book.tangles[book.draft.name] = book.main
    book.draft = None
