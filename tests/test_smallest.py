"""smallest: its errors, the order of words, and that the smallest word is one that is reached."""

import unittest

from tests import table
from tests.calls import (find_path, load_first, load_second, path_word, run, shown, smallest, tangle)
from tests.test_levels import JUST_600, JUST_601, LARGE
from tests.words import lines, word

LARGEST = 2 ** 53
FIRST, SECOND = tangle(2, "over 1/under 1/cup 3"), tangle(3, "cup 1/over 3")
LOADS = (load_first(FIRST), load_second(SECOND))


def ask(*arguments):
    """What smallest answers for each which and moves."""
    return run(*LOADS, *[smallest(which, moves) for which, moves in arguments])[2:]


class Arguments(unittest.TestCase):
    def test_which(self):
        self.assertEqual(ask((1, 1), (2, 1)), [[1, 2, 3], [2, 0, 1, 2, 1]])
        self.assertEqual(ask((0, 1), (3, 1), (4, 1), (-1, 1), (LARGEST, 1), (-LARGEST, 1)), [[-2]] * 6)

    def test_moves(self):
        self.assertEqual(ask(*[(1, moves) for moves in range(5)]),
                         [[3, 0, 1, 1, 1, 2, 3]] + [[1, 2, 3]] * 4)
        self.assertEqual(ask(*[(2, moves) for moves in range(5)]),
                         [[2, 2, 1, 0, 3]] + [[2, 0, 1, 2, 1]] * 4)
        for which in (1, 2):
            wrong = [(which, moves) for moves in (-1, 5, 6, LARGEST, -LARGEST)]
            self.assertEqual(ask(*wrong), [[-2]] * 5)

    def test_both_out_of_range(self):
        self.assertEqual(ask((0, -1), (3, 5), (0, 5), (3, -1), (LARGEST, LARGEST)), [[-2]] * 5)

    def test_out_of_range_ahead_of_too_many_words(self):
        given = run(load_first(tangle(12, LARGE)), load_second(tangle(12, LARGE)),
                    *[smallest(*pair) for pair in ((0, 4), (3, 4), (1, 5), (2, 5), (1, -1))])
        self.assertEqual(given[2:], [[-2]] * 5)


class TooManyWords(unittest.TestCase):
    def test_of_this_tangle_and_of_the_other_one(self):
        for top, start, moves in JUST_601 + [(12, LARGE, 2)]:
            loads = (load_first(tangle(top, start)), load_second(tangle(2, "over 1/under 1")))
            given = run(*loads, smallest(1, moves), smallest(2, moves), smallest(1, 0))
            self.assertEqual(given[2:4], [[-8], [0]])
            self.assertEqual(shown(given[4]), run_of(start))
            loads = (load_first(tangle(2, "over 1/under 1")), load_second(tangle(top, start)))
            self.assertEqual(run(*loads, smallest(1, moves), smallest(2, moves))[2:], [[0], [-8]])

    def test_of_both(self):
        top, start, moves = JUST_601[0]
        loads = (load_first(tangle(top, start)), load_second(tangle(top, start)))
        self.assertEqual(run(*loads, smallest(1, moves), smallest(2, moves))[2:], [[-8], [-8]])

    def test_just_600_words(self):
        for top, start, moves in JUST_600:
            loads = (load_first(tangle(top, start)), load_second(tangle(top, start)))
            given = run(*loads, smallest(1, moves), smallest(2, moves))
            expected = table.smallest(sum(table.levels(word(start), moves), []))
            self.assertEqual([shown(answer) for answer in given[2:]], [lines(expected)] * 2)


def run_of(start):
    """The lines of a word, without `repeat`."""
    if not start.startswith("repeat 12/"):
        return start
    return "/".join([start[len("repeat 12/"):-len("/again")]] * 12)


class Order(unittest.TestCase):
    def check(self, top, start, moves, expected):
        """The smallest word of both tangles alike, and by the document's words too."""
        text = tangle(top, start)
        given = run(load_first(text), load_second(text), smallest(1, moves), smallest(2, moves))
        self.assertEqual([shown(answer) for answer in given[2:]], [expected] * 2)

    def test_shorter_words_first(self):
        self.check(2, "cup 3/over 1/under 1", 0, "cup 3/over 1/under 1")
        self.check(2, "cup 3/over 1/under 1", 1, "cup 3")
        self.check(2, "over 1/cup 3/cup 3/cap 4", 1, "over 1/cup 3")
        self.check(4, "cap 3/cup 1/over 1", 1, "cap 3/cup 1")
        self.check(2, "cup 1/cap 2/cup 1/cap 2", 1, "cup 1/cap 2")
        self.check(2, "cup 1/cap 2/cup 1/cap 2", 2, "")

    def test_over_before_under(self):
        self.check(4, "under 1/over 3", 1, "over 3/under 1")
        self.check(4, "over 3/under 1", 1, "over 3/under 1")
        self.check(4, "over 1/under 3", 1, "over 1/under 3")

    def test_under_before_cup(self):
        self.check(4, "cup 1/under 5", 1, "under 3/cup 1")
        self.check(4, "under 3/cup 1", 1, "under 3/cup 1")
        self.check(4, "cup 5/under 1", 1, "under 1/cup 5")

    def test_cup_before_cap(self):
        self.check(4, "cap 1/cup 3", 1, "cup 5/cap 1")
        self.check(4, "cup 5/cap 1", 1, "cup 5/cap 1")
        self.check(4, "cap 3/cup 1", 1, "cup 1/cap 5")

    def test_kinds_that_are_no_neighbours(self):
        self.check(4, "cup 1/over 5", 1, "over 3/cup 1")
        self.check(4, "cap 1/over 1", 1, "over 3/cap 1")
        self.check(4, "cap 1/under 1", 1, "under 3/cap 1")

    def test_the_strand_of_equal_kinds(self):
        self.check(4, "over 3/over 1", 1, "over 1/over 3")
        self.check(4, "under 3/under 1", 1, "under 1/under 3")
        self.check(2, "cup 3/cup 1", 1, "cup 1/cup 5")
        self.check(6, "cap 5/cap 1", 1, "cap 1/cap 3")
        self.check(4, "over 1/over 3", 1, "over 1/over 3")

    def test_strands_are_compared_as_numbers(self):
        self.check(12, "over 10/over 2", 1, "over 2/over 10")
        self.check(12, "over 2/over 10", 1, "over 2/over 10")

    def test_the_strand_alone(self):
        # The events behind are the same in both words.
        self.check(2, "cup 1/cup 1/cup 2", 1, "cup 1/cup 1/cup 2")
        self.check(2, "cup 2/cup 1/over 4/over 3/over 2", 0, "cup 2/cup 1/over 4/over 3/over 2")
        self.check(0, "cup 1/cup 3", 1, "cup 1/cup 1")
        self.check(0, "cup 1/cup 1", 1, "cup 1/cup 1")
        self.check(4, "cap 3/cap 1", 1, "cap 1/cap 1")

    def test_the_first_event_that_differs_decides(self):
        self.check(4, "over 2/over 3/over 1", 1, "over 2/over 1/over 3")
        self.check(5, "over 1/over 4/under 2", 1, "over 1/over 4/under 2")
        self.check(5, "over 4/over 1/over 2", 1, "over 1/over 4/over 2")
        self.check(5, "under 4/under 1/over 2", 1, "under 1/under 4/over 2")

    def test_the_kind_counts_before_the_strand(self):
        self.check(3, "cup 1/over 2", 1, "cup 1/over 2")
        self.check(3, "cup 2/under 1", 1, "cup 1/over 2")
        self.check(12, "under 1/over 11", 1, "over 11/under 1")

    def test_a_word_that_is_smallest_itself(self):
        for moves in range(5):
            self.check(4, "over 1/over 3", moves, "over 1/over 3")
            self.check(2, "", moves, "")
            self.check(3, "over 1/over 2", moves, "over 1/over 2")
            self.check(4, "over 2/over 1/cup 3", moves, "over 2/over 1/cup 3")

    def test_the_other_tangle_does_not_count(self):
        given = run(load_first(tangle(2, "over 1/under 1/cup 1")), load_second(tangle(2, "over 1")),
                    smallest(1, 1), smallest(2, 1))
        self.assertEqual(given[2:], [[1, 2, 1], [1, 0, 1]])


class Requirement6(unittest.TestCase):
    """The word is reached, and no smaller word is: against a literal reading of the document."""

    def compare(self, top, events, moves):
        reached = sum(table.levels(events, moves), [])
        text = tangle(top, lines(events))
        answer = run(load_first(text), load_second(text), smallest(2, moves))[2]
        self.assertEqual(shown(answer), lines(table.smallest(reached)))
        return reached.index(table.smallest(reached))

    def test_short_words(self):
        places = set()
        for top, length, every in ((0, 3, 1), (2, 3, 3), (3, 3, 11), (2, 4, 41), (4, 4, 509)):
            for events in table.all_words(top, length)[::every]:
                for moves in (1, 2, 3):
                    places.add(self.compare(top, events, moves))
        self.assertLessEqual({0, 1, 2, 3}, places)


class WhatStays(unittest.TestCase):
    def test_the_path_and_the_tangles(self):
        first, second = tangle(2, "over 1/under 1/cup 3"), tangle(2, "cup 3")
        given = run(load_first(first), load_second(second), find_path(1), smallest(1, 1), smallest(2, 4),
                    smallest(0, 0), smallest(1, 5), path_word(0), path_word(1), path_word(2), find_path(1))
        self.assertEqual(given[2:], [[2, 1], [1, 2, 3], [1, 2, 3], [-2], [-2],
                                     [3, 0, 1, 1, 1, 2, 3], [1, 2, 3], [-3], [2, 1]])

    def test_the_path_behind_too_many_words(self):
        text = tangle(12, LARGE)
        given = run(load_first(text), load_second(text), find_path(0), smallest(1, 4), path_word(0))
        self.assertEqual(given[2:4], [[1, 0], [-8]])
        self.assertEqual(given[4][0], 60)


if __name__ == "__main__":
    unittest.main()
