"""How calls are read and answers given back; -7 ahead of all others; the examples."""

import unittest

from tanglemoves.desk import answers
from tests.calls import (as_bytes, common, difference, error, find_path, load_first, load_first_bytes,
                         load_second, load_second_bytes, path_word, run, smallest, tangle)
from tests.test_levels import LARGE

PLAIN = "tie a 2/end"
LARGEST = 2 ** 53


class Examples(unittest.TestCase):
    def test_the_table_as_calls_of_one_list(self):
        given = run(
            load_first("tie a 2/over 1/under 1/end"),
            difference(),
            load_second("tie b 2/end"),
            find_path(0),
            find_path(1),
            path_word(0),
            path_word(1),
            path_word(2),
            common(1),
            smallest(1, 0),
            smallest(1, 1),
            smallest(2, 4),
            difference(),
        )
        self.assertEqual(given, [
            [2, 2, 2, 2], [-7], [2, 2, 0, 0], [0], [2, 1], [2, 0, 1, 1, 1], [0], [-3], [1, 2, 1],
            [2, 0, 1, 1, 1], [0], [0], [0]])

    def test_the_form_of_calls_and_answers(self):
        first = as_bytes("tie a 2/over 1/under 1/end")
        second = as_bytes("tie b 2/end")
        calls = [1, len(first)] + first + [7, 2, len(second)] + second
        calls += [3, 0, 3, 1, 4, 0, 4, 1, 4, 2, 5, 1, 6, 1, 0, 6, 1, 1, 6, 2, 4, 7]
        self.assertEqual(answers(calls), [
            4, 2, 2, 2, 2, 1, -7, 4, 2, 2, 0, 0, 1, 0, 2, 2, 1, 5, 2, 0, 1, 1, 1, 1, 0, 1, -3,
            3, 1, 2, 1, 5, 2, 0, 1, 1, 1, 1, 0, 1, 0, 1, 0])


class Calls(unittest.TestCase):
    def test_a_single_call(self):
        self.assertEqual(answers(load_first(PLAIN)), [4, 2, 2, 0, 0])
        for call in ([3, 0], [4, 0], [5, 0], [6, 1, 0], [7]):
            self.assertEqual(answers(call), [1, -7])

    def test_a_row_without_numbers(self):
        self.assertEqual(answers([1, 0, 2, 0, 4, 0]), [1, -216, 1, -216, 1, -7])

    def test_twenty_calls(self):
        given = run(load_first(PLAIN), load_second(PLAIN), *[find_path(0), path_word(0)] * 9)
        self.assertEqual(given[2:], [[1, 0], [0]] * 9)

    def test_twenty_calls_that_mix_all_seven(self):
        given = run(
            difference(), load_second("tie b 2/over 1/over 1/end"), common(0), smallest(2, 0),
            load_first("tie a 2/over 1/under 1/over 1/end"), find_path(4), difference(), path_word(0),
            load_first("tie a 2/over 1/over 1/over 1/under 1/end"), find_path(1), difference(), path_word(1),
            common(1), smallest(1, 0), smallest(1, 1), common(5), load_second("tie b 2/end"), difference(),
            path_word(0), common(4))
        self.assertEqual(given, [
            [-7], [2, 2, 2, 2], [-7], [-7],
            [2, 2, 3, 3], [0], [2], [-3],
            [2, 2, 4, 4], [2, 1], [0], [2, 0, 1, 0, 1],
            [1, 2, 1], [4, 0, 1, 0, 1, 0, 1, 1, 1], [2, 0, 1, 0, 1], [-2], [2, 2, 0, 0], [3],
            [-3], [0, 2, 1]])

    def test_twenty_calls_in_another_order(self):
        first, second = tangle(3, "cup 1/over 2/cap 1/under 2"), tangle(3, "over 1/cup 4")
        given = run(
            path_word(0), smallest(3, 5), find_path(5), common(5), difference(), load_first(first),
            smallest(1, 1), load_second(second), smallest(1, 0), smallest(1, 4), smallest(2, 4), common(0),
            path_word(0), difference(), load_second("tie c 4/end"), find_path(0), common(0),
            load_second(first), find_path(3), difference())
        self.assertEqual(given, [
            [-7], [-7], [-7], [-7], [-7], [3, 3, 4, 2],
            [-7], [3, 5, 2, 1], [4, 2, 1, 0, 2, 3, 1, 1, 2], [1, 1, 2], [2, 0, 1, 2, 4], [0, 1, 1],
            [-3], [1], [4, 4, 0, 0], [-4], [0, 1, 1],
            [3, 3, 4, 2], [1, 0], [0]])

    def test_bytes_of_a_text_that_look_like_calls(self):
        self.assertEqual(run(load_first_bytes([3, 0, 4]), find_path(0)), [[-2], [-7]])

    def test_nine_texts_of_2100_numbers(self):
        long = load_first_bytes([32] * 2100)
        self.assertEqual(answers(long * 9), [1, -2] * 9)

    def test_answers_are_a_list_of_whole_numbers(self):
        given = answers(load_first(PLAIN) + load_second(PLAIN) + [3, 0, 4, 0, 4, 1, 5, 1, 6, 2, 1, 7])
        self.assertIs(list, type(given))
        self.assertEqual({int}, {type(number) for number in given})

    def test_what_is_handed_in_stays_as_it_was(self):
        for calls in (load_first("tie a 2/over 1/under 1/end") + load_second(PLAIN)
                      + [3, 1, 4, 0, 4, 1, 4, 2, 3, 5, 5, 1, 6, 1, 1, 6, 0, 0, 5, 9, 7],
                      load_first("tie a 2/cup 1/over 1/over 2/cap 1/end") + load_second("tie a 2/over 1/end")
                      + [7, 7, 5, 4, 6, 1, 4, 6, 2, 4], [5, 0], [6, 1, 0], [7],
                      load_first_bytes([-1, 300]) + load_first("tie a") + [3, 1]):
            copy = list(calls)
            answers(calls)
            self.assertEqual(calls, copy)

    def test_two_lists_know_nothing_of_each_other(self):
        calls = load_first("tie a 2/over 1/under 1/end") + load_second(PLAIN) + find_path(1) + path_word(0)
        calls += common(1) + smallest(1, 1) + difference()
        once = answers(calls)
        for call in (path_word(0), common(0), smallest(1, 0), difference()):
            self.assertEqual(answers(call), [1, -7])
        self.assertEqual(answers(find_path(0) + load_second(PLAIN) + find_path(0)),
                         [1, -7, 4, 2, 2, 0, 0, 1, -7])
        self.assertEqual(answers(calls), once)
        given = answers(calls)
        given.append(5)
        self.assertEqual(answers(calls), once)

    def test_names_of_one_text_are_unknown_in_the_next(self):
        given = run(load_first(PLAIN), load_second(PLAIN), load_second("tie b 2/use a 1/end"))
        self.assertEqual(given, [[2, 2, 0, 0], [2, 2, 0, 0], error(2, 2)])


class NotLoaded(unittest.TestCase):
    def test_ahead_of_everything_else(self):
        asked = [find_path(moves) for moves in (0, 4, 5, -1, LARGEST, -LARGEST)]
        asked += [path_word(index) for index in (0, 1, -1, LARGEST, -LARGEST)]
        self.check(asked)

    def test_ahead_of_everything_else_in_common(self):
        self.check([common(moves) for moves in (0, 1, 4, 5, -1, LARGEST, -LARGEST)])

    def test_ahead_of_everything_else_in_smallest(self):
        self.check([smallest(which, moves) for which in (0, 1, 2, 3, LARGEST) for moves in (0, 4, -1)])
        self.check([smallest(which, moves) for which in (1, 2) for moves in (5, LARGEST, -LARGEST)])

    def test_ahead_of_everything_else_in_difference(self):
        self.check([difference()])

    def check(self, asked):
        """All calls answer -7 if no tangle is loaded, or only one of them, once or twice."""
        for loads in ([], [load_first(PLAIN)], [load_second(PLAIN)],
                      [load_first(PLAIN), load_first(PLAIN)],
                      [load_second(PLAIN), load_second(PLAIN)]):
            given = run(*loads, *asked)
            self.assertEqual(given[len(loads):], [[-7]] * len(asked))

    def test_ahead_of_too_many_words(self):
        asked = [find_path(4), common(4), smallest(1, 4), smallest(2, 4)]
        for load in (load_first(tangle(12, LARGE)), load_second(tangle(12, LARGE))):
            self.assertEqual(run(load, *asked)[1:], [[-7]] * 4)

    def test_a_load_that_failed_loads_nothing(self):
        for bad in (load_second("tie b 2"), load_second_bytes([0])):
            given = run(load_first(PLAIN), bad, find_path(0), path_word(0), common(0), smallest(1, 0),
                        difference())
            self.assertEqual(given[2:], [[-7]] * 5)

    def test_the_order_of_the_loads_does_not_matter(self):
        given = run(load_second(PLAIN), load_first("tie a 2/over 1/end"), find_path(0))
        self.assertEqual(given, [[2, 2, 0, 0], [2, 2, 1, 1], [0]])


class FailedLoads(unittest.TestCase):
    def test_the_tangles_stay_as_they_were(self):
        given = run(load_first("tie a 2/over 1/end"), load_second("tie a 2/under 1/over 1/over 1/end"),
                    load_first("tie a 2/over 1"), load_second("tie a 3/end/x"),
                    load_first_bytes([127]), load_second_bytes([32] * 2001),
                    find_path(1), path_word(0), path_word(1))
        self.assertEqual(given[2:], [error(3, 6), error(3, 1), [-2], [-2], [2, 0], [1, 0, 1],
                                     [3, 1, 1, 0, 1, 0, 1]])

    def test_common_smallest_and_difference_still_tell_of_them(self):
        loads = (load_first("tie a 2/over 1/under 1/over 1/over 1/end"), load_second("tie a 2/end"))
        asked = (common(1), smallest(1, 1), smallest(2, 1), difference())
        told = [[0, 2, 1], [2, 0, 1, 0, 1], [0], [3]]
        for bad in (load_first("tie a 2"), load_second("tie a 2/over 2/end"), load_first_bytes([9]),
                    load_second_bytes([32] * 2001)):
            given = run(*loads, *asked, bad, *asked)
            self.assertEqual(given[2:6], told)
            self.assertEqual(given[7:], told)

    def test_common_smallest_and_difference_tell_of_the_newest(self):
        asked = (common(1), smallest(1, 1), smallest(2, 1), difference())
        given = run(load_first("tie a 2/over 1/end"), load_second("tie a 2/end"), *asked,
                    load_first("tie a 2/under 1/over 1/end"), *asked,
                    load_second("tie a 2/under 1/under 1/end"), *asked)
        self.assertEqual(given[2:6], [[0, 1, 1], [1, 0, 1], [0], [2]])
        self.assertEqual(given[7:11], [[1, 2, 1], [0], [0], [0]])
        self.assertEqual(given[12:], [[0, 2, 1], [0], [2, 1, 1, 1, 1], [3]])

    def test_a_load_takes_the_place_of_the_one_before(self):
        given = run(load_first("tie a 2/over 1/end"), load_second(PLAIN), find_path(4),
                    load_second("tie a 2/over 1/end"), find_path(0), path_word(0),
                    load_first(PLAIN), find_path(4))
        self.assertEqual(given[2:], [[0], [2, 2, 1, 1], [1, 0], [1, 0, 1], [2, 2, 0, 0], [0]])


if __name__ == "__main__":
    unittest.main()
