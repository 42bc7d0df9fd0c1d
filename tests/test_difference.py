"""difference: strands, ends and closed components, linkings; test_colorings.py has the rest."""

import unittest

from tanglemoves.components import sorted_linkings, weave_of
from tanglemoves.tangles import Tangle
from tests import table, tracing
from tests.calls import difference_of, tangle
from tests.words import lines, word


class Difference(unittest.TestCase):
    def check(self, top, first, second, expected):
        """What two tangles with so many strands at the top answer, in either order."""
        one, other = tangle(top, first), tangle(top, second)
        self.assertEqual(difference_of(one, other), [expected], (first, second))
        self.assertEqual(difference_of(other, one), [expected], (second, first))
        self.assertEqual(tracing.difference(top, word(first), top, word(second)), expected)

    def check_tops(self, first, second, expected):
        """The same for pairs of strands at the top and lines."""
        one, other = tangle(*first), tangle(*second)
        self.assertEqual(difference_of(one, other), [expected], (first, second))
        self.assertEqual(difference_of(other, one), [expected], (second, first))


class NoDifference(Difference):
    def test_equal_words(self):
        for top, events in ((0, ""), (12, ""), (2, "over 1"), (4, "over 1/cup 2/cap 3/under 3"),
                            (0, "cup 1/cup 2/over 1/over 1/over 1/cap 2/cap 1")):
            self.check(top, events, events, 0)

    def test_other_words_of_the_same_tangle(self):
        self.check(2, "over 1/under 1", "", 0)
        self.check(1, "cup 1/cap 2", "", 0)
        self.check(3, "over 1/over 2/over 1", "over 2/over 1/over 2", 0)

    def test_tangles_that_are_not_told_apart(self):
        # No path leads from the one to the other, but they are the same in all that is compared.
        self.check(2, "over 1/over 1", "under 1/under 1", 0)
        self.check(2, "over 1", "under 1", 0)
        self.check(3, "over 1/over 1", "over 2/over 2", 0)


class Strands(Difference):
    def test_only_the_top_differs(self):
        self.check_tops((2, "cap 1"), (4, "cap 1/cap 1"), 1)
        self.check_tops((0, "cup 1"), (2, ""), 1)
        self.check_tops((12, "cap 1/cap 1"), (8, ""), 1)

    def test_only_the_bottom_differs(self):
        self.check_tops((2, "cap 1"), (2, ""), 1)
        self.check_tops((0, "cup 1"), (0, ""), 1)
        self.check_tops((4, "cap 1"), (4, "cap 1/cap 1"), 1)

    def test_both_differ(self):
        self.check_tops((0, ""), (1, ""), 1)
        self.check_tops((2, "cap 1"), (0, "cup 1"), 1)

    def test_ahead_of_all_else(self):
        # The number of closed components, linkings and colorings differ too.
        self.check_tops((2, "over 1/over 1"), (4, "cup 1/cap 1"), 1)
        self.check_tops((3, "over 1/over 1/cap 2"), (3, "cup 1/cap 1"), 1)
        self.check_tops((1, "cup 2/over 1/over 1/over 1/cap 2"), (3, "cap 2/cup 1/cap 1/cup 1/cup 1"), 1)


class Ends(Difference):
    def test_top_with_bottom(self):
        self.check(2, "over 1", "", 2)
        self.check(3, "over 1/over 2", "over 2/over 1", 2)
        self.check(3, "over 1", "over 2", 2)
        self.check(12, "over 11", "", 2)

    def test_top_with_top(self):
        self.check(4, "cap 1", "cap 3", 2)
        self.check(4, "cap 1/cap 1", "cap 2/cap 1", 2)
        self.check(4, "over 2/cap 1/cap 1", "cap 1/cap 1", 2)

    def test_bottom_with_bottom(self):
        self.check(0, "cup 1/cup 1", "cup 1/cup 2", 2)
        self.check(2, "cup 1", "cup 3", 2)
        self.check(0, "cup 1/cup 1/over 2", "cup 1/cup 1", 2)

    def test_all_ends_together_in_another_way(self):
        self.check(2, "cap 1/cup 1", "", 2)
        self.check(2, "cap 1/cup 1", "over 1", 2)
        self.check(3, "cap 1/cup 1", "cap 2/cup 2", 2)
        self.check(3, "cap 1/cup 2", "cap 1/cup 1", 2)

    def test_ends_joined_by_several_caps_and_cups(self):
        self.check(1, "cup 2/over 1/cap 2", "", 0)
        self.check(3, "cup 2/cap 3/over 1", "over 1", 0)
        self.check(4, "cup 3/cap 2/cap 2", "cap 2", 0)
        self.check(4, "cup 3/cap 2/cap 2", "cap 1", 2)
        self.check(2, "cup 2/cup 3/cap 5/cap 1", "", 2)
        self.check(2, "cup 2/cup 3/cap 5/cap 1", "cap 1/cup 1", 0)


class Closed(Difference):
    def test_another_number_of_closed_components(self):
        self.check(0, "cup 1/cap 1", "", 2)
        self.check(0, "cup 1/cap 1/cup 1/cap 1", "cup 1/cap 1", 2)
        self.check(2, "cup 3/cap 3", "", 2)
        self.check(2, "over 1/cup 1/cap 1", "over 1", 2)

    def test_one_cup_and_one_cap_in_another_place(self):
        self.check(3, "cup 1/cap 1", "cup 4/cap 4", 0)
        self.check(0, "cup 1/cup 1/cap 1/cap 1", "cup 1/cap 1/cup 1/cap 1", 0)
        self.check(1, "cup 2/over 1/over 2/cap 1", "cup 1/cap 1", 0)

    def test_of_several_cups_and_caps(self):
        self.check(0, "cup 1/cup 1/cap 2/cap 1", "cup 1/cap 1", 0)
        self.check(0, "cup 1/cup 1/cap 2/cap 1", "cup 1/cup 1/cap 1/cap 1", 2)
        self.check(0, "cup 1/cup 2/cup 3/cap 2/cap 1/cap 1", "cup 1/cap 1", 0)
        self.check(0, "cup 1/cup 2/cup 3/cap 3/cap 1/cap 1", "cup 1/cap 1", 2)
        self.check(0, "cup 1/cup 3/cup 5/cap 2/cap 2/cap 1", "cup 1/cap 1", 0)

    def test_caps_that_join_strands_of_one_component_and_of_two(self):
        self.check(0, "cup 1/cup 3/cap 1/cap 1", "cup 1/cup 3/cap 2/cap 1", 2)
        self.check(0, "cup 1/cup 3/over 2/cap 1/cap 1", "cup 1/cap 1", 0)
        self.check(2, "cup 1/cap 1/cap 1", "cup 1/cap 2/cap 1", 2)

    def test_ends_and_closed_components_at_once(self):
        self.check(2, "over 1/cup 1/cap 1", "", 2)
        self.check(4, "cap 1/cup 1/cap 1", "cap 3", 2)

    def test_ahead_of_linkings_and_colorings(self):
        self.check(2, "over 1/over 1/over 1", "", 2)
        self.check(0, "cup 1/cup 2/over 1/over 1/cap 2/cap 1", "cup 1/cap 1", 2)
        self.check(0, "cup 1/cup 2/over 1/over 1/over 1/cap 2/cap 1", "", 2)
        self.check(3, "over 1/over 1/cup 1/cap 1", "", 2)


class Linkings(Difference):
    def test_open_components(self):
        self.check(2, "over 1/over 1", "", 3)
        self.check(2, "over 1/over 1/over 1", "over 1", 3)
        self.check(3, "over 2/over 2", "", 3)
        self.check(4, "cap 1/over 1/over 1", "cap 1", 3)

    def test_closed_components(self):
        hopf = "cup 1/cup 3/over 2/over 2/cap 1/cap 1"
        self.check(0, hopf, "cup 1/cap 1/cup 1/cap 1", 3)
        self.check(0, hopf, "cup 1/cup 3/over 2/over 2/over 2/over 2/cap 1/cap 1", 3)
        self.check(0, hopf, "cup 1/cup 2/under 1/under 1/cap 2/cap 1", 0)

    def test_an_open_and_a_closed_component(self):
        self.check(1, "cup 2/over 1/over 1/cap 2", "cup 1/cap 1", 3)
        self.check(1, "cup 2/over 1/under 1/cap 2", "cup 1/cap 1", 0)
        self.check(1, "cup 2/over 1/over 2/cap 1", "cup 1/cap 1", 0)
        self.check(1, "cup 2/over 1/under 2/cap 1", "cup 1/cap 1", 3)

    def test_either_sign(self):
        self.check(2, "under 1/under 1", "", 3)
        self.check(2, "over 1/over 1", "under 1/under 1", 0)
        self.check(2, "over 1/over 1/over 1", "under 1", 3)
        self.check(2, "over 1/over 1/under 1", "under 1", 0)
        self.check(2, "over 1/over 1/over 1/under 1", "under 1/under 1", 0)
        self.check(3, "over 1/over 1/under 2/under 2", "over 1/over 1/over 2/over 2", 0)

    def test_a_component_with_itself_does_not_count(self):
        for kind in ("over", "under"):
            self.check(1, "cup 2/%s 1/cap 2" % kind, "", 0)
            self.check(2, "cap 1/cup 1/%s 1" % kind, "cap 1/cup 1", 0)
            self.check(3, "cup 4/%s 4/cap 4/over 1/over 1" % kind, "over 1/over 1/cup 1/cap 1", 0)
        self.check(2, "over 1/over 1/cap 1", "cap 1", 0)
        self.check(2, "over 1/over 1/over 1/cap 1", "cap 1", 0)

    def test_pairs_of_which_some_do_not_cross(self):
        self.check(3, "over 1/over 1/over 1/over 1", "over 1/over 1/over 2/over 2", 3)
        self.check(4, "over 1/over 1/over 3/over 3", "over 1/over 1/over 1/over 1", 3)
        self.check(4, "over 1/over 1/over 3/over 3", "over 1/over 1/over 2/over 2", 0)

    def test_the_lists_are_compared_sorted(self):
        four, two = "over 1/over 1/over 1/over 1", "under 3/under 3"
        self.check(4, four + "/" + two, "/".join(["over 3"] * 4) + "/under 1/under 1", 0)
        self.check(4, four + "/" + two, "over 2/over 2/over 2/over 2/over 1/over 1", 0)
        self.check(4, four + "/" + two, "over 1/over 1/over 2/over 2", 3)
        self.check(4, four + "/" + two, "over 1/over 1/over 2/over 2/over 3/over 3", 3)

    def test_components_that_are_merged_by_a_later_cap(self):
        # Both strands go downwards, so one of them has to be turned.
        self.check(3, "over 2/over 1/cap 2", "cap 1", 0)
        self.check(3, "under 2/over 1/cap 2", "cap 1", 3)
        self.check(3, "over 2/under 1/cap 2", "cap 1", 3)
        self.check(3, "over 2/over 2/over 1/over 1/cap 1", "cap 1", 3)
        self.check(4, "over 2/over 2/cap 1/cap 1", "cap 1/cap 1", 3)
        self.check(4, "over 2/under 2/cap 1/cap 1", "cap 1/cap 1", 0)
        self.check(2, "over 1/over 1/cup 2/over 3/over 3/cap 1", "over 1/over 1/over 1/over 1", 0)
        self.check(2, "over 1/over 1/cup 2/over 3/over 3/cap 1", "", 3)
        self.check(2, "over 1/over 1/cup 2/under 3/under 3/cap 1", "", 0)

    def test_components_that_are_merged_and_fit(self):
        # One strand goes downwards and the other upwards, so none has to be turned.
        self.check(2, "over 1/over 1/cup 2/over 1/over 1/cap 3", "over 1/over 1/over 1/over 1", 0)
        self.check(2, "over 1/over 1/cup 2/over 1/over 1/cap 3", "", 3)
        self.check(2, "over 1/over 1/cup 2/under 1/under 1/cap 3", "", 0)
        self.check(2, "over 1/over 1/cup 2/under 1/under 1/cap 3", "over 1/over 1", 3)
        self.check(3, "over 2/over 2/cup 2/cap 1", "", 3)
        self.check(1, "cup 1/cup 1/over 4/over 4/cap 2/cap 1", "cup 1/cap 1", 3)

    def test_merged_again_and_again(self):
        self.check(2, "over 1/over 1/cup 2/cap 3/cup 1/cap 2", "over 1/over 1", 0)
        self.check(2, "over 1/over 1/cup 2/cap 1/cup 2/cap 1/over 1/over 1", "over 1/over 1", 3)
        # A component that has been turned is merged once more.
        self.check(3, "over 2/over 1/cup 3/cap 2/cap 2", "cap 1", 0)
        self.check(3, "under 2/over 1/cup 3/cap 2/cap 2", "cap 1", 3)
        self.check(3, "over 2/under 1/cup 3/cap 2/cap 2", "cap 1", 3)
        self.check(5, "over 4/over 4/over 3/over 3/over 2/over 2/over 1/over 1/cap 1/cap 1", "cap 1/cap 1", 3)
        self.check(5, "over 4/over 4/cap 1/cap 1", "over 4/over 4/over 2/over 2/cap 1/cap 1", 3)

    def test_ahead_of_colorings(self):
        self.check(0, "cup 1/cup 2/over 1/over 1/cap 2/cap 1", "cup 1/cap 1/cup 1/cap 1", 3)
        six = "cup 1/cup 2/%s/cap 2/cap 1" % "/".join(["over 1"] * 6)
        self.check(0, six, "cup 1/cup 2/over 1/over 1/cap 2/cap 1", 3)
        trefoil = "cup 1/cup 2/over 1/over 1/over 1/cap 2/cap 1"
        self.check(2, trefoil + "/over 1/over 1", "cup 1/cap 1", 3)


def long_word(top, length, number):
    """Events that are possible one after the other, told by a number."""
    word, strands = (), top
    while len(word) < length:
        # The high part of the next number in a plain row of numbers, which repeats itself late.
        number = (number * 1103515245 + 12345) % 2 ** 31
        possible = [event for event in table.events_at(strands) if event[0] != 2 or strands < 7]
        event = possible[(number >> 12) % len(possible)]
        strands += table.LEFT[event[0]] - table.NEEDED[event[0]]
        word += (event,)
    return word


class LinkingsByNumbers(unittest.TestCase):
    """The sorted list itself, since call 7 only tells whether two lists differ."""

    def check(self, top, events, expected):
        bottom = tracing.rows(top, word(events))[-1]
        self.assertEqual(sorted_linkings(weave_of(Tangle(top, bottom, word(events)))), expected, events)
        self.assertEqual(tracing.linkings(top, word(events)), expected)

    def test_no_pairs(self):
        self.check(0, "", [])
        self.check(1, "", [])
        self.check(0, "cup 1/cup 2/over 1/over 1/over 1/cap 2/cap 1", [])

    def test_pairs_without_a_crossing(self):
        self.check(3, "", [0, 0, 0])
        self.check(3, "over 1", [0, 0, 1])
        self.check(2, "over 1/under 1", [0])
        self.check(0, "cup 1/cap 1/cup 1/cap 1", [0])
        self.check(2, "cup 1", [0, 0, 0])

    def test_signs_are_added_up(self):
        self.check(2, "over 1/over 1/over 1", [3])
        self.check(2, "under 1/under 1/under 1", [3])
        self.check(2, "over 1/over 1/under 1", [1])
        self.check(3, "over 1/over 2/under 1/under 1", [1, 1, 2])

    def test_directions(self):
        self.check(1, "cup 2/over 1/over 2", [0])
        self.check(1, "cup 2/over 1/under 2", [2])
        self.check(2, "cup 2/over 1/over 3", [0, 1, 1])
        self.check(3, "over 2/over 1/cap 2", [0])
        self.check(3, "under 2/over 1/cap 2", [2])

    def test_short_words(self):
        for top, length, every in ((0, 4, 3), (1, 4, 7), (2, 4, 13), (3, 3, 5), (4, 4, 101)):
            for events in table.all_words(top, length)[::every]:
                self.check(top, lines(events), tracing.linkings(top, events))

    def test_long_words(self):
        merged = 0
        for number in range(150):
            top, length = number % 6, 8 + number % 17
            events = long_word(top, length, number)
            self.check(top, lines(events), tracing.linkings(top, events))
            merged += len(tracing.components(top, events)) < top + tracing.cups(events) - 1
        self.assertGreater(merged, 50)


class AsInTheDocument(unittest.TestCase):
    """Many pairs of tangles, against a walk along every component."""

    def test_short_words(self):
        results = {}
        for top, length, every in ((0, 4, 5), (1, 4, 11), (2, 3, 7), (2, 4, 37), (3, 3, 9), (4, 3, 61)):
            alike = {}
            for events in table.all_words(top, length)[::every]:
                alike.setdefault(tracing.rows(top, events)[-1], []).append(events)
            for chosen in alike.values():
                for number, first in enumerate(chosen):
                    for second in chosen[number % 11::11]:
                        expected = tracing.difference(top, first, top, second)
                        answer = difference_of(tangle(top, lines(first)), tangle(top, lines(second)))
                        self.assertEqual(answer, [expected], (first, second))
                        results[expected] = results.get(expected, 0) + 1
        self.assertLessEqual({0, 2, 3}, set(results))


if __name__ == "__main__":
    unittest.main()
