"""path_word: each position of the path, and when there is a path."""

import unittest

from tests.calls import (error, find_path, load_first, load_first_bytes, load_second, load_second_bytes,
                         path_word, run, tangle)
from tests.test_levels import LARGE

LARGEST = 2 ** 53
FIRST = tangle(2, "over 1/under 1/cup 3")
SECOND = tangle(2, "cup 3")
LOADS = (load_first(FIRST), load_second(SECOND))
WORDS = [[3, 0, 1, 1, 1, 2, 3], [1, 2, 3]]


class Positions(unittest.TestCase):
    def test_each_position(self):
        given = run(*LOADS, find_path(1), path_word(0), path_word(1), path_word(0))
        self.assertEqual(given[2:], [[2, 1], WORDS[0], WORDS[1], WORDS[0]])

    def test_one_past_the_last_and_further(self):
        given = run(*LOADS, find_path(1), path_word(2), path_word(3), path_word(1000), path_word(LARGEST))
        self.assertEqual(given[3:], [[-3]] * 4)

    def test_below_0(self):
        given = run(*LOADS, find_path(1), path_word(-1), path_word(-2), path_word(-LARGEST))
        self.assertEqual(given[3:], [[-2]] * 3)

    def test_all_kinds_of_events(self):
        text = tangle(12, "over 11/under 3/cap 10/cup 7/cap 1")
        given = run(load_first(text), load_second(text), find_path(0), path_word(0), path_word(1))
        self.assertEqual(given[3:], [[5, 0, 11, 1, 3, 3, 10, 2, 7, 3, 1], [-3]])

    def test_a_word_of_sixty_events(self):
        text = tangle(2, "repeat 12/under 1/under 1/under 1/under 1/under 1/again")
        given = run(load_first(text), load_second(text), find_path(0), path_word(0))
        self.assertEqual(given[3], [60] + [1, 1] * 60)

    def test_a_word_without_events(self):
        given = run(load_first(tangle(2, "")), load_second(tangle(2, "")), find_path(0), path_word(0))
        self.assertEqual(given[3], [0])


class WhetherThereIsAPath(unittest.TestCase):
    def after(self, *calls):
        """What path_word answers behind a path that was found and these calls."""
        given = run(*LOADS, find_path(1), *calls, path_word(0), path_word(1), path_word(2), path_word(-1))
        self.assertEqual(given[2], [2, 1])
        return given[3:-4], given[-4:]

    def test_before_the_first_search(self):
        self.assertEqual(run(*LOADS, path_word(0), path_word(1), path_word(-1))[2:], [[-3], [-3], [-2]])

    def test_it_stays(self):
        self.assertEqual(self.after(), ([], WORDS + [[-3], [-2]]))
        self.assertEqual(self.after(path_word(5), path_word(-5)), ([[-3], [-2]], WORDS + [[-3], [-2]]))

    def test_after_a_load(self):
        for call in LOADS:
            self.assertEqual(self.after(call)[1], [[-3], [-3], [-3], [-2]])

    def test_after_a_load_and_another_search(self):
        answers, words = self.after(load_first(SECOND), find_path(4))
        self.assertEqual(answers, [[2, 4, 1, 0], [1, 0]])
        self.assertEqual(words, [[1, 2, 3], [-3], [-3], [-2]])

    def test_after_a_load_that_failed(self):
        for load, load_bytes in ((load_first, load_first_bytes), (load_second, load_second_bytes)):
            for call, answer in ((load("tie a 2/over 2/end"), error(2, 3)), (load(""), error(2, 6)),
                                 (load_bytes([9]), [-2]), (load_bytes([32] * 2001), [-2])):
                self.assertEqual(self.after(call), ([answer], WORDS + [[-3], [-2]]))

    def test_after_a_search_that_failed(self):
        for moves in (-1, 5, LARGEST, -LARGEST):
            self.assertEqual(self.after(find_path(moves)), ([[-2]], WORDS + [[-3], [-2]]))
        text = tangle(12, LARGE)
        given = run(load_first(text), load_second(text), find_path(1), find_path(2), path_word(0), path_word(1))
        self.assertEqual(given[2:4], [[1, 0], [-8]])
        self.assertEqual(given[4][0], 60)
        self.assertEqual(given[5], [-3])

    def test_after_tops_that_differ(self):
        answers, words = self.after(load_second(tangle(3, "cup 3")), find_path(1))
        self.assertEqual(answers, [[3, 5, 1, 0], [-4]])
        self.assertEqual(words, [[-3], [-3], [-3], [-2]])

    def test_after_a_search_that_answers_0(self):
        answers, words = self.after(find_path(0))
        self.assertEqual(answers, [[0]])
        self.assertEqual(words, [[-3], [-3], [-3], [-2]])

    def test_after_it_a_path_is_found_again(self):
        self.assertEqual(self.after(find_path(0), find_path(2)), ([[0], [2, 1]], WORDS + [[-3], [-2]]))

    def test_a_path_takes_the_place_of_the_one_before(self):
        first, second = tangle(2, "cup 1/cap 2/cup 3"), tangle(2, "cup 3/cup 1/cap 2")
        given = run(load_first(first), load_second(second), find_path(1), path_word(1),
                    load_first(second), load_second(first), find_path(2), path_word(1), path_word(3))
        self.assertEqual(given[3], [1, 2, 3])
        self.assertEqual(given[7:], [[3, 2, 1, 2, 5, 3, 2], [-3]])


if __name__ == "__main__":
    unittest.main()
