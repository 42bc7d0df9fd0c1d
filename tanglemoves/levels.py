"""Levels: the words that are reached from a word by a number of moves."""

from tanglemoves.moves import words_by_moves
from tanglemoves.refusals import TooManyWords

MOST_WORDS = 600


class Reached:
    """The words that are reached from a word, in the order in which they are found."""

    def __init__(self, start):
        self.words = [start]
        self.levels = {start: 0}
        self.predecessors = {start: None}

    def put(self, word, level, predecessor):
        """Adds a word that has just been found."""
        if len(self.words) == MOST_WORDS:
            raise TooManyWords()
        self.words.append(word)
        self.levels[word] = level
        self.predecessors[word] = predecessor


def words_reached(start, moves):
    """The words of the levels 0 to `moves` of a word."""
    reached = Reached(start)
    newest = [start]
    for level in range(1, moves + 1):
        newest = next_level(reached, newest, level)
    return reached


def words_in_both(first, second):
    """The words reached from both of two words, in the order of the first one."""
    return [word for word in first.words if word in second.levels]


def next_level(reached, newest, level):
    """Puts the words of a level, that follows the newest one, among those reached."""
    found = []
    for predecessor in newest:
        for word in words_by_moves(predecessor):
            if word not in reached.levels:
                reached.put(word, level, predecessor)
                found.append(word)
    return found
