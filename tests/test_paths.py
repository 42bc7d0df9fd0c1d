"""find_path: its errors, the meeting point, and the words of the path."""

import unittest

from tests import table
from tests.calls import find_path, load_first, load_second, path_between, path_word, run, tangle
from tests.test_levels import JUST_601, LARGE
from tests.words import lines, word

LARGEST = 2 ** 53


def path(top, first, second, moves):
    """What find_path answers for two words, and the words of the path."""
    return path_between(tangle(top, first), tangle(top, second), moves)


class Errors(unittest.TestCase):
    def ask(self, first, second, *moves):
        return run(load_first(first), load_second(second), *[find_path(count) for count in moves])[2:]

    def test_moves_out_of_range(self):
        wrong = (-LARGEST, -2, -1, 5, 6, 1000, LARGEST)
        self.assertEqual(self.ask(tangle(2, "over 1"), tangle(2, "over 1"), *wrong), [[-2]] * 7)

    def test_moves_in_range(self):
        self.assertEqual(self.ask(tangle(2, "over 1"), tangle(2, "over 1"), 0, 1, 2, 3, 4), [[1, 0]] * 5)

    def test_moves_ahead_of_all_else(self):
        self.assertEqual(self.ask(tangle(12, LARGE), tangle(10, LARGE), -1, 5), [[-2], [-2]])
        self.assertEqual(self.ask(tangle(2, ""), tangle(3, ""), -1, 5), [[-2], [-2]])

    def test_different_strands_at_the_top(self):
        for first, second in (((2, "over 1"), (3, "over 1")), ((2, ""), (4, "")), ((0, ""), (1, "")),
                              ((2, "cap 1"), (0, "")), ((0, "cup 1"), (2, ""))):
            for one, other in ((first, second), (second, first)):
                self.assertEqual(self.ask(tangle(*one), tangle(*other), 0, 4), [[-4], [-4]])

    def test_too_many_words_ahead_of_different_strands(self):
        for large in (tangle(12, LARGE), tangle(*JUST_601[0][:2])):
            self.assertEqual(self.ask(large, tangle(2, ""), 1, 4), [[-4], [-8]])
            self.assertEqual(self.ask(tangle(2, ""), large, 1, 4), [[-4], [-8]])

    def test_too_many_words_though_the_tangles_are_equal(self):
        self.assertEqual(self.ask(tangle(12, LARGE), tangle(12, LARGE), 0, 1, 2), [[1, 0], [1, 0], [-8]])


class NoPath(unittest.TestCase):
    def test_no_word_is_reached_from_both(self):
        for top, first, second in ((2, "over 1", "under 1"), (2, "", "over 1"), (4, "over 1", "over 3"),
                                   (2, "cap 1", ""), (0, "cup 1", "")):
            for moves in range(5):
                self.assertEqual(path(top, first, second, moves), ([0], []))

    def test_not_with_so_few_moves(self):
        first, second = "over 1/under 1/over 1/under 1/over 1/under 1", ""
        self.assertEqual([path(2, first, second, moves)[0] for moves in range(5)],
                         [[0], [0], [0], [4, 3], [4, 3]])
        self.assertEqual([path(2, second, first, moves)[0] for moves in range(5)],
                         [[0], [0], [0], [4, 0], [4, 0]])

    def test_a_move_cannot_be_asked_of_the_other_side(self):
        self.assertEqual(path(2, "over 1/under 1", "under 1/over 1", 1),
                         ([3, 1], ["over 1/under 1", "", "under 1/over 1"]))


class EqualTangles(unittest.TestCase):
    def test_one_word(self):
        for top, events in ((0, ""), (2, "over 1/under 1"), (4, "over 1/cup 2/cap 3/under 3"),
                            (12, "over 11/over 3/cap 1")):
            for moves in range(5):
                self.assertEqual(path(top, events, events, moves), ([1, 0], [events]))

    def test_written_in_another_way(self):
        first = "tie b 2/under 1/end/tie a 2/repeat 2/use b 1 mirror/again/end"
        self.assertEqual(path_between(first, "tie c 2/over 1/over 1/end", 0), ([1, 0], ["over 1/over 1"]))


class MeetingPoint(unittest.TestCase):
    def test_the_smallest_sum(self):
        # The word without events is reached from both, but the other one is nearer.
        self.assertEqual(path(4, "over 1/under 1/over 3/under 3", "over 3/under 3", 2), (
            [2, 1], ["over 1/under 1/over 3/under 3", "over 3/under 3"]))

    def test_of_equal_sums_the_smallest_level_for_the_first_tangle(self):
        self.assertEqual(path(2, "under 1/cup 3", "cup 3/under 1", 1), (
            [2, 0], ["under 1/cup 3", "cup 3/under 1"]))
        self.assertEqual(path(2, "cup 3/under 1", "under 1/cup 3", 4), (
            [2, 0], ["cup 3/under 1", "under 1/cup 3"]))

    def test_even_if_another_half_is_shorter_for_the_second(self):
        first, second = "cup 1/cup 3/cup 1", "cup 1/cup 3/cup 3"
        self.assertEqual(path(2, first, second, 2), (
            [4, 1], [first, "cup 1/cup 1/cup 1", "cup 1/cup 1/cup 3", second]))

    def test_of_equal_levels_the_first_word_for_the_first_tangle(self):
        first, second = "cup 1/cap 2/cup 3", "cup 3/cup 1/cap 2"
        self.assertEqual(path(2, first, second, 1), ([3, 1], [first, "cup 3", second]))
        self.assertEqual(path(2, second, first, 1), ([3, 1], [second, "cup 1/cup 5/cap 2", first]))

    def test_not_the_smallest_word(self):
        first, second = "cup 1/cup 4/over 3", "cup 1/under 2/cup 1"
        answer, words = path(2, first, second, 2)
        self.assertEqual(answer, [4, 1])
        self.assertEqual(words, [first, "cup 2/cup 1/over 3", "cup 2/over 1/cup 1", second])


class Predecessors(unittest.TestCase):
    LONG = "over 1/under 1/over 3/under 3"

    def test_the_first_one_for_the_first_tangle(self):
        self.assertEqual(path(4, self.LONG, "", 2), ([3, 2], [self.LONG, "over 3/under 3", ""]))

    def test_the_first_one_for_the_second_tangle(self):
        self.assertEqual(path(4, "", self.LONG, 2), ([3, 0], ["", "over 3/under 3", self.LONG]))

    def test_for_both(self):
        other = "under 1/over 1/under 3/over 3"
        self.assertEqual(path(4, self.LONG, other, 2), (
            [5, 2], [self.LONG, "over 3/under 3", "", "under 3/over 3", other]))

    def test_the_longest_path(self):
        first = "/".join(["over 1/under 1"] * 4)
        second = "/".join(["over 2/under 2"] * 4)
        self.assertEqual(path(3, first, second, 3), ([0], []))
        answer, words = path(3, first, second, 4)
        self.assertEqual(answer, [9, 4])
        self.assertEqual(words, [first, first[15:], first[30:], first[45:], "",
                                 second[45:], second[30:], second[15:], second])


class AsInTheDocument(unittest.TestCase):
    """Many pairs of tangles, against a literal reading of the document."""

    def compare(self, top, first, second, moves):
        expected = table.path(first, second, moves)
        answer, words = path(top, lines(first), lines(second), moves)
        if expected is None:
            self.assertEqual((answer, words), ([0], []))
            return 0
        self.assertEqual(words, [lines(events) for events in expected[0]])
        self.assertEqual(answer, [len(words), expected[1]])
        self.check_steps([word(step) for step in words], word(lines(first)), word(lines(second)))
        return len(words)

    def check_steps(self, words, first, second):
        """Each step is a move in one of the two directions."""
        self.assertEqual((words[0], words[-1]), (first, second))
        for one, other in zip(words, words[1:]):
            forward = [result for _, _, result in table.moves(one)]
            back = [result for _, _, result in table.moves(other)]
            self.assertTrue(other in forward or one in back, (one, other))

    def test_words_that_are_reached_and_their_neighbours(self):
        lengths = set()
        for top, length, step in ((2, 3, 11), (3, 3, 23), (4, 3, 97), (2, 4, 211), (3, 4, 607)):
            for first in table.all_words(top, length)[::step]:
                near = [events for level in table.levels(first, 2) for events in level]
                for second in near[::3] + near[-1:]:
                    for moves in (1, 2):
                        lengths.add(self.compare(top, first, second, moves))
                        lengths.add(self.compare(top, second, first, moves))
        self.assertLessEqual({0, 1, 2, 3}, lengths)

    def test_words_of_equal_length(self):
        lengths = set()
        for top, length, step in ((2, 3, 31), (3, 3, 67), (0, 4, 13)):
            chosen = table.all_words(top, length)[::step]
            for first in chosen:
                for second in chosen:
                    lengths.add(self.compare(top, first, second, 2))
        self.assertLessEqual({0, 1}, lengths)

    def test_longer_words(self):
        pairs = (("cup 1/over 2/cap 3/under 1", "under 1/cup 3/over 2/cap 1", 2),
                 ("over 1/over 2/over 1/under 3/under 1", "over 2/over 1/under 3/over 2/under 1", 4),
                 ("over 1/over 2/over 1/under 3/under 1", "under 3/over 2/over 1/over 2/under 1", 4),
                 ("cup 1/cup 3/over 2/cap 1/cap 1", "cup 1/cap 1", 5),
                 ("cup 1/cup 3/over 2/under 2/cap 1/cap 1", "cup 1/cup 3/cap 3/cap 1", 2))
        for first, second, top in pairs:
            for moves in (2, 3, 4):
                self.compare(top, word(first), word(second), moves)
                self.compare(top, word(second), word(first), moves)


if __name__ == "__main__":
    unittest.main()
