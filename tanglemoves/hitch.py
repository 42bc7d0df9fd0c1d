"""The state, two tangles and a path, and the operations on it."""

from tanglemoves.comparison import number_of_difference
from tanglemoves.events import crossing_count, size
from tanglemoves.levels import words_in_both, words_reached
from tanglemoves.paths import meeting_point, path_over
from tanglemoves.reader import main_tangle
from tanglemoves.refusals import NoSuchWord, NotLoaded, OutOfRange, TopsDiffer

MOST_MOVES = 4
# Which tangle is meant.
FIRST = 1
SECOND = 2


class Hitch:
    """Both tangles and the path that was found last; the path has no words if there is none."""

    def __init__(self):
        self.first = None
        self.second = None
        self.path = []

    def load_first(self, text):
        """Loads the first tangle and tells its numbers."""
        self.first = main_tangle(text)
        self.path = []
        return tangle_numbers(self.first)

    def load_second(self, text):
        """Loads the second tangle and tells its numbers."""
        self.second = main_tangle(text)
        self.path = []
        return tangle_numbers(self.second)

    def check_loaded(self):
        """Refuses what needs both tangles if one has not been loaded."""
        if self.first is None or self.second is None:
            raise NotLoaded()

    def find_path(self, moves):
        """Searches for a path, keeps it, and tells its length and where its halves meet."""
        self.check_loaded()
        check_moves(moves)
        first = words_reached(self.first.word, moves)
        second = words_reached(self.second.word, moves)
        if self.first.top != self.second.top:
            raise TopsDiffer()
        meeting = meeting_point(first, second)
        if meeting is None:
            self.path = []
            return [0]
        self.path = path_over(meeting, first, second)
        return [len(self.path), first.levels[meeting]]

    def path_word(self, index):
        """The word at a position of the path."""
        self.check_loaded()
        if index < 0:
            raise OutOfRange()
        if index >= len(self.path):
            raise NoSuchWord()
        return word_numbers(self.path[index])

    def common(self, moves):
        """How many words are reached from both tangles, and from each."""
        self.check_loaded()
        check_moves(moves)
        first = words_reached(self.first.word, moves)
        second = words_reached(self.second.word, moves)
        return [len(words_in_both(first, second)), len(first.words), len(second.words)]

    def smallest(self, which, moves):
        """The smallest word that is reached from one of the tangles."""
        self.check_loaded()
        if which != FIRST and which != SECOND:
            raise OutOfRange()
        check_moves(moves)
        tangle = self.first if which == FIRST else self.second
        reached = words_reached(tangle.word, moves)
        return word_numbers(min(reached.words, key=size))

    def first_difference(self):
        """The number of the first difference between the tangles, or 0."""
        self.check_loaded()
        return [number_of_difference(self.first, self.second)]


def check_moves(moves):
    """Refuses a number of moves that is out of range."""
    if moves < 0 or moves > MOST_MOVES:
        raise OutOfRange()


def tangle_numbers(tangle):
    """What is told of a tangle when it has been loaded."""
    return [tangle.top, tangle.bottom, len(tangle.word), crossing_count(tangle.word)]


def word_numbers(word):
    """A word in the form in which it is answered."""
    numbers = [len(word)]
    for kind, strand in word:
        numbers.append(kind)
        numbers.append(strand)
    return numbers
