"""Levels: their words in order, and how many words are too many."""

import unittest

from tanglemoves.levels import words_reached
from tanglemoves.refusals import TooManyWords
from tests import table
from tests.calls import find_path, load_first, load_second, path_word, run, tangle
from tests.words import lines, word

# How many strands, the word, the moves, and how many words these reach (see test_their_counts).
JUST_600 = [
    (12, "over 1/under 3/over 7/under 11/over 8/over 9/over 11/over 4/over 4/over 7/over 5/over 2"
         "/over 3", 4),
    (12, "over 7/over 10/under 6/over 5/over 6/over 9/under 1/over 1/over 3/under 3/over 7/over 5"
         "/over 2/under 11/under 6/under 2", 3),
]
JUST_601 = [
    (10, "under 8/over 8/under 8/under 1/under 5/over 3/under 1/under 9/under 3/over 7/under 1", 4),
    (12, "under 8/over 6/over 7/over 5/under 11/under 7/over 6/over 10/under 1/over 9/over 5/under 7"
         "/under 11/over 8/over 1/over 11/over 9", 3),
]
LARGE = "repeat 12/over 1/over 3/over 5/over 7/over 9/again"


def found(before, moves):
    """The words that the program reaches, level by level."""
    reached = words_reached(word(before), moves)
    levels = [[] for _ in range(moves + 1)]
    for events in reached.words:
        levels[reached.levels[events]].append(lines(events))
    return levels


class Words(unittest.TestCase):
    def test_level_0_is_the_word_itself(self):
        self.assertEqual(found("over 1/under 1", 0), [["over 1/under 1"]])
        self.assertEqual(found("", 0), [[""]])

    def test_no_more_words(self):
        self.assertEqual(found("over 1/under 1", 4), [["over 1/under 1"], [""], [], [], []])

    def test_the_order_in_which_they_are_found(self):
        self.assertEqual(found("over 1/under 1/over 3/under 3", 2), [
            ["over 1/under 1/over 3/under 3"],
            ["over 3/under 3", "over 1/over 3/under 1/under 3", "over 1/under 1"],
            ["", "over 3/over 1/under 1/under 3", "over 1/over 3/under 3/under 1"],
        ])

    def test_a_word_of_an_earlier_level_is_not_found_again(self):
        self.assertEqual(found("over 1/over 3", 4), [
            ["over 1/over 3"], ["over 3/over 1"], [], [], []])
        self.assertEqual(found("cup 1/over 1/over 2", 3), [
            ["cup 1/over 1/over 2"], ["cup 1/over 2"], ["cup 2/under 1"], []])

    def test_a_word_is_found_once_in_its_level(self):
        self.assertEqual(found("over 1/under 1/over 1", 1), [["over 1/under 1/over 1"], ["over 1"]])

    def test_the_same_as_by_the_words_of_the_document(self):
        starts = [events for strands in (0, 2, 3) for length in (2, 3, 4)
                  for events in table.all_words(strands, length)[::29]]
        starts += [word("over 1/over 3/under 1/cup 2/cap 4/under 3"),
                   word("cup 1/cup 1/over 2/cap 3/cup 5/under 1/cap 2"),
                   word("over 1/over 2/over 1/under 4/under 5/under 4/over 2")]
        for start in starts:
            for moves in (2, 3):
                levels = [[lines(events) for events in level] for level in table.levels(start, moves)]
                self.assertEqual(found(lines(start), moves), levels)


class Limit(unittest.TestCase):
    def test_their_counts(self):
        for cases, count in ((JUST_600, 600), (JUST_601, 601)):
            for _, start, moves in cases:
                levels = table.levels(word(start), moves)
                self.assertEqual(sum(len(level) for level in levels), count)

    def test_600_words(self):
        for top, start, moves in JUST_600:
            self.assertEqual(len(words_reached(word(start), moves).words), 600)
            text = tangle(top, start)
            given = run(load_first(text), load_second(text), find_path(moves), find_path(moves - 1))
            self.assertEqual(given[2:], [[1, 0], [1, 0]])

    def test_600_words_of_each_tangle(self):
        (top, one, moves), other = JUST_600[0], "over 1"
        text = tangle(top, one)
        self.assertEqual(run(load_first(text), load_second(tangle(top, other)), find_path(moves))[2], [0])
        self.assertEqual(run(load_first(tangle(top, other)), load_second(text), find_path(moves))[2], [0])

    def test_more_than_600_words(self):
        for top, start, moves in JUST_601:
            self.assertRaises(TooManyWords, words_reached, word(start), moves)
            text, plain = tangle(top, start), tangle(top, "")
            for first, second in ((text, plain), (plain, text), (text, text)):
                given = run(load_first(first), load_second(second), find_path(moves), find_path(0))
                self.assertEqual(given[2], [-8])
                self.assertNotEqual(given[3], [-8])

    def test_many_more(self):
        text = tangle(12, LARGE)
        given = run(load_first(text), load_second(text), *[find_path(moves) for moves in range(5)],
                    path_word(1))
        self.assertEqual(given[2:], [[1, 0], [1, 0], [-8], [-8], [-8], [-3]])


if __name__ == "__main__":
    unittest.main()
