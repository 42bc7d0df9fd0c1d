"""common: its errors, its three counts, and that it leaves the path as it is."""

import unittest

from tests import table
from tests.calls import common, find_path, load_first, load_second, path_word, run, tangle
from tests.test_levels import JUST_600, JUST_601, LARGE
from tests.words import lines

LARGEST = 2 ** 53


def ask(first, second, *moves):
    """What common answers for two texts and each of these numbers of moves."""
    return run(load_first(first), load_second(second), *[common(count) for count in moves])[2:]


class Errors(unittest.TestCase):
    def test_moves_out_of_range(self):
        wrong = (-LARGEST, -2, -1, 5, 6, 1000, LARGEST)
        self.assertEqual(ask(tangle(2, "over 1"), tangle(2, "over 1"), *wrong), [[-2]] * 7)

    def test_moves_in_range(self):
        self.assertEqual(ask(tangle(2, "over 1"), tangle(2, "over 1"), 0, 1, 2, 3, 4), [[1, 1, 1]] * 5)

    def test_moves_ahead_of_too_many_words(self):
        self.assertEqual(ask(tangle(12, LARGE), tangle(12, LARGE), -1, 5), [[-2], [-2]])

    def test_too_many_words_of_the_first_the_second_and_both(self):
        for top, start, moves in JUST_601 + [(12, LARGE, 2)]:
            large, plain = tangle(top, start), tangle(top, "")
            for first, second in ((large, plain), (plain, large), (large, large)):
                answers = ask(first, second, moves, 0)
                self.assertEqual(answers[0], [-8])
                self.assertEqual(answers[1][1:], [1, 1])

    def test_too_many_words_ahead_of_a_word_that_is_reached_at_once(self):
        self.assertEqual(ask(tangle(12, LARGE), tangle(12, LARGE), 0, 2), [[1, 1, 1], [-8]])

    def test_different_numbers_of_strands_are_no_error(self):
        self.assertEqual(ask(tangle(2, "over 1/under 1"), tangle(3, "under 2"), 0, 1), [[0, 1, 1], [0, 2, 1]])
        self.assertEqual(ask(tangle(12, LARGE), tangle(2, ""), 2), [[-8]])
        self.assertEqual(ask(tangle(2, ""), tangle(12, LARGE), 2), [[-8]])

    def test_words_of_tangles_with_different_strands_may_be_equal(self):
        self.assertEqual(ask(tangle(2, "over 1/under 1"), tangle(7, "over 1/under 1"), 0, 1),
                         [[1, 1, 1], [2, 2, 2]])
        self.assertEqual(ask(tangle(12, "over 1/under 1"), tangle(3, "under 2/over 2"), 0, 1),
                         [[0, 1, 1], [1, 2, 2]])


class Counts(unittest.TestCase):
    def test_equal_tangles(self):
        for text, counts in ((tangle(2, ""), (1, 1, 1, 1, 1)), (tangle(4, "over 1/over 3"), (1, 2, 2, 2, 2)),
                             (tangle(4, "over 1/under 1/over 3/under 3"), (1, 4, 7, 8, 9))):
            self.assertEqual(ask(text, text, 0, 1, 2, 3, 4), [[count] * 3 for count in counts])

    def test_no_word_in_common(self):
        for top, first, second in ((2, "over 1", "under 1"), (4, "over 1", "over 3"), (0, "cup 1", "")):
            self.assertEqual(ask(tangle(top, first), tangle(top, second), 0, 1, 4), [[0, 1, 1]] * 3)

    def test_the_first_count_is_that_of_both(self):
        first, second = tangle(4, "over 1/under 1/over 3/under 3"), tangle(4, "over 3/under 3")
        self.assertEqual(ask(first, second, 0, 1, 2), [[0, 1, 1], [1, 4, 2], [2, 7, 2]])
        self.assertEqual(ask(second, first, 0, 1, 2), [[0, 1, 1], [1, 2, 4], [2, 2, 7]])

    def test_just_600_words(self):
        for top, start, moves in JUST_600:
            text = tangle(top, start)
            self.assertEqual(ask(text, text, moves), [[600, 600, 600]])
            self.assertEqual(ask(text, tangle(top, ""), moves), [[0, 600, 1]])
            self.assertEqual(ask(tangle(top, ""), text, moves), [[0, 1, 600]])

    def test_as_in_the_document(self):
        shared = set()
        for top, length, every in ((2, 3, 5), (3, 3, 17), (2, 4, 97), (3, 4, 307)):
            for first in table.all_words(top, length)[::every]:
                near = [word for level in table.levels(first, 2) for word in level]
                for second in (near[-1], near[len(near) // 2], near[0]):
                    for moves in (1, 3):
                        ours = sum(table.levels(first, moves), [])
                        theirs = sum(table.levels(second, moves), [])
                        both = len(set(ours) & set(theirs))
                        answer = ask(tangle(top, lines(first)), tangle(top, lines(second)), moves)
                        self.assertEqual(answer, [[both, len(ours), len(theirs)]])
                        shared.add(both)
        self.assertLessEqual({0, 1, 2, 3, 4, 5}, shared)


class ThePath(unittest.TestCase):
    FIRST, SECOND = tangle(2, "over 1/under 1/cup 3"), tangle(2, "cup 3")

    def test_it_stays(self):
        given = run(load_first(self.FIRST), load_second(self.SECOND), find_path(1),
                    *[common(moves) for moves in (0, 1, -1, 5)], path_word(0), path_word(1), path_word(2))
        self.assertEqual(given[2:], [[2, 1], [0, 1, 1], [1, 3, 1], [-2], [-2],
                                     [3, 0, 1, 1, 1, 2, 3], [1, 2, 3], [-3]])

    def test_it_stays_behind_too_many_words(self):
        text = tangle(12, LARGE)
        given = run(load_first(text), load_second(text), find_path(0), common(4), path_word(0), path_word(1))
        self.assertEqual(given[2:4], [[1, 0], [-8]])
        self.assertEqual(given[4], [60] + [0, 1, 0, 3, 0, 5, 0, 7, 0, 9] * 12)
        self.assertEqual(given[5], [-3])

    def test_no_path_is_found(self):
        given = run(load_first(self.SECOND), load_second(self.SECOND), common(4), path_word(0))
        self.assertEqual(given[2:], [[1, 1, 1], [-3]])


if __name__ == "__main__":
    unittest.main()
