"""The requirements over the whole program: calls whose answers have to fit one another."""

import unittest

from tests import table, tracing
from tests.calls import (common, difference, difference_of, find_path, load_first, load_second, path_word,
                         run, shown, smallest, tangle)
from tests.words import lines, word

TREFOIL = "cup 1/cup 2/over 1/over 1/over 1/cap 2/cap 1"
HOPF = "cup 1/cup 3/over 2/over 2/cap 1/cap 1"
# At least one word for each kind of move, where linkings and colorings have something to tell.
FOR_EACH_KIND = [
    (1, 3, "over 1/over 1/under 1/over 2"),
    (1, 2, "under 1/over 1/cup 2/over 1/over 1/cap 2"),
    (2, 1, "cup 1/over 1/over 2/over 2/cap 1"),
    (2, 1, "cup 2/under 2/over 1/over 1/over 1/cap 2"),
    (3, 3, "over 2/over 2/over 1/cap 1"),
    (3, 1, "cup 2/over 1/over 1/over 1/under 2/cap 2"),
    (4, 2, "over 1/over 1/cup 1/cap 2"),
    (4, 2, "over 1/over 1/cup 3/cap 2/under 1"),
    (5, 3, "over 1/over 2/over 1/over 1/over 2"),
    (5, 3, "under 1/over 2/over 1/over 2/over 2"),
    (6, 3, "over 2/over 1/under 2/over 2/over 1"),
    (6, 3, "under 2/under 1/under 2/over 1/over 1"),
    (7, 4, "over 1/over 1/under 3/over 3/over 3"),
    (7, 2, TREFOIL + "/over 1/over 1"),
    (7, 2, "over 1/over 1/cup 1/cup 5/cap 1"),
    (8, 1, "cup 1/over 2/over 2/cap 1"),
    (8, 1, "cup 1/under 2/over 2/over 1/cap 1"),
    (9, 1, "cup 2/over 1/over 1/cap 2"),
    (9, 1, "cup 2/under 1/over 2/under 2/cap 1"),
    (10, 3, "over 2/over 2/over 1/cap 2"),
    (10, 3, "over 1/over 1/under 1/cap 2"),
    (11, 3, "over 1/over 1/over 2/cap 1"),
    (11, 3, "over 2/over 2/under 2/cap 1"),
]


class Requirement2(unittest.TestCase):
    """Where there is a path, there is no difference."""

    def check_moves(self, top, events):
        """Every move of a word leads to a tangle that has no difference; the kinds that were made."""
        kinds = set()
        for _, kind, other in table.moves(events):
            given = run(load_first(tangle(top, lines(events))), load_second(tangle(top, lines(other))),
                        find_path(1), difference())
            self.assertGreater(given[2][0], 0, (events, other))
            self.assertEqual(given[3], [0], (kind, events, other))
            kinds.add(kind)
        return kinds

    def test_each_kind_of_move(self):
        for kind, top, events in FOR_EACH_KIND:
            self.assertIn(kind, self.check_moves(top, word(events)), events)

    def test_short_words(self):
        kinds = set()
        for top, length, every in ((0, 4, 3), (1, 4, 7), (2, 3, 1), (3, 3, 3), (3, 4, 31), (4, 4, 101)):
            for events in table.all_words(top, length)[::every]:
                kinds |= self.check_moves(top, events)
        self.assertEqual(kinds, set(range(1, 12)))

    def test_several_moves(self):
        for top, events in ((0, TREFOIL), (0, HOPF), (1, "cup 2/over 1/over 1/over 1/cap 2/cup 1/cap 2"),
                            (3, "over 1/over 2/over 1/cup 2/under 3/cap 4"),
                            (2, "over 1/over 1/cup 1/cup 5/over 4/cap 5/cap 1")):
            levels = table.levels(word(events), 3)
            reached = sum(levels[1:], [])
            self.assertGreater(len(reached), 2)
            for other in reached[::1 + len(reached) // 30]:
                given = run(load_first(tangle(top, lines(other))), load_second(tangle(top, events)),
                            find_path(3), difference())
                self.assertGreater(given[2][0], 0)
                self.assertEqual(given[3], [0])

    def test_where_there_is_a_difference_there_is_no_path(self):
        results = set()
        for top, length, every in ((0, 4, 53), (2, 3, 29), (3, 3, 53)):
            chosen = table.all_words(top, length)[::every]
            for first in chosen:
                for second in chosen:
                    given = run(load_first(tangle(top, lines(first))), load_second(tangle(top, lines(second))),
                                difference(), find_path(2))
                    results.add((given[2][0], given[3][0] > 0))
        self.assertEqual({result for result, path in results if path}, {0})
        self.assertLessEqual({(0, False), (1, False), (2, False), (3, False)}, results)


class PathsAndCounts(unittest.TestCase):
    def test_requirements_1_to_6(self):
        found = set()
        for top, length, every in ((2, 3, 41), (3, 3, 71), (2, 4, 401)):
            for first in table.all_words(top, length)[::every]:
                near = sum(table.levels(first, 2), [])
                for second in near[::4] + [near[-1], table.all_words(top, length)[-1]]:
                    for moves in (0, 1, 2):
                        found.add(self.check(top, first, second, moves))
        self.assertLessEqual({0, 1, 2, 3}, found)

    def check(self, top, first, second, moves):
        """What all calls tell of two tangles; how many words the path has."""
        path, both, *words = run(
            load_first(tangle(top, lines(first))), load_second(tangle(top, lines(second))), find_path(moves),
            common(moves), *[path_word(index) for index in range(2 * moves + 1)],
            smallest(1, moves), smallest(2, moves), difference())[2:]
        *words, ours, theirs, result = words
        self.assertEqual(path[0] == 0, both[0] == 0)
        if path[0] == 0:
            return 0
        words = [word(shown(numbers)) for numbers in words[:path[0]]]
        self.assertEqual((words[0], words[-1]), (first, second))
        for one, other in zip(words, words[1:]):
            self.assertTrue(other in after(one) or one in after(other), (one, other))
        self.assertEqual(result, [0])
        if first == second:
            self.assertEqual((path, ours), ([1, 0], theirs))
        for start, answer in ((first, ours), (second, theirs)):
            reached = sum(table.levels(start, moves), [])
            self.assertEqual(word(shown(answer)), table.smallest(reached))
        return len(words)

    def test_5_a_tangle_and_itself(self):
        for top, events in ((0, ""), (0, TREFOIL), (2, "over 1/under 1"), (12, "over 11/cap 1")):
            text = tangle(top, events)
            for moves in range(5):
                given = run(load_first(text), load_second(text), find_path(moves), common(moves), difference())
                self.assertEqual(given[2], [1, 0])
                self.assertEqual(given[3], [given[3][0]] * 3)
                self.assertEqual(given[4], [0])


def after(events):
    """The words obtained from a word by one move."""
    return [other for _, _, other in table.moves(events)]


class TheSecondReading(unittest.TestCase):
    """That the slow reading itself tells what is known of some tangles."""

    def test_components(self):
        self.assertEqual(tracing.ends(2, word("over 1")), ({(0, 101), (1, 100)}, 0))
        self.assertEqual(tracing.ends(4, word("cap 2/cup 3/cup 1/cap 1")),
                         ({(0, 100), (1, 2), (3, 101), (102, 103)}, 1))

    def test_colorings_and_linkings(self):
        self.assertEqual(tracing.colorings(0, word(TREFOIL), 3), 9)
        self.assertEqual(tracing.colorings(0, word(TREFOIL), 5), 5)
        self.assertEqual(tracing.linkings(0, word(HOPF)), [2])
        self.assertEqual(difference_of(tangle(0, TREFOIL), tangle(0, HOPF)), [2])


if __name__ == "__main__":
    unittest.main()
