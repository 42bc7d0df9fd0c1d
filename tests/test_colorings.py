"""difference: the numbers of colorings with 3 and with 5 colors, and when they are compared."""

import unittest

from tanglemoves.colorings import coloring_count
from tanglemoves.tangles import Tangle
from tests import table, tracing
from tests.calls import difference_of, tangle
from tests.test_difference import Difference
from tests.words import lines, word


def times(count, events):
    """Events that are repeated."""
    return "/".join([events] * count)


def closed(cups, events):
    """A closed braid with so many cups: none of its strands reaches an end."""
    numbers = range(1, cups + 1)
    parts = ["cup %d" % number for number in numbers] + [events]
    return "/".join(part for part in parts + ["cap %d" % number for number in reversed(numbers)] if part)


# Knots with a single closed component, and how many colorings with 3 and with 5 colors they have.
UNKNOT = "cup 1/cap 1"
TREFOIL = closed(2, times(3, "over 1"))
FIVE = closed(2, times(5, "over 1"))
FIGURE_EIGHT = closed(3, times(2, "over 1/under 2"))
SEVEN = closed(2, times(7, "over 1"))
BOTH = closed(3, times(3, "over 1") + "/" + times(5, "over 2"))
NUMBERS = ((UNKNOT, 3, 5), (TREFOIL, 9, 5), (FIVE, 3, 25), (FIGURE_EIGHT, 3, 25), (SEVEN, 3, 5),
           (BOTH, 9, 25))


class Three(Difference):
    def test_only_colorings_with_3_colors(self):
        self.check(0, TREFOIL, UNKNOT, 4)
        self.check(0, TREFOIL, SEVEN, 4)
        self.check(0, BOTH, FIVE, 4)
        self.check(1, "cup 2/%s/cap 2" % times(3, "over 1"), "", 4)

    def test_components_without_linking(self):
        whitehead = closed(3, "over 1/over 1/under 2/over 1/under 2")
        self.check(0, whitehead, UNKNOT + "/" + UNKNOT, 4)
        self.check(1, whitehead, closed(2, "over 1/under 1"), 4)

    def test_ahead_of_5_colors(self):
        self.check(0, BOTH, UNKNOT, 4)
        self.check(0, TREFOIL, FIVE, 4)
        self.check(0, TREFOIL, FIGURE_EIGHT, 4)


class Five(Difference):
    def test_only_colorings_with_5_colors(self):
        self.check(0, FIVE, UNKNOT, 5)
        self.check(0, FIVE, SEVEN, 5)
        self.check(0, FIGURE_EIGHT, UNKNOT, 5)
        self.check(0, BOTH, TREFOIL, 5)
        self.check(1, "cup 2/%s/cap 2" % times(5, "over 1"), "", 5)

    def test_behind_all_others(self):
        self.check_tops((0, FIVE), (0, "cup 1"), 1)
        self.check(0, FIVE, "", 2)
        self.check(2, FIVE + "/over 1", UNKNOT, 2)
        self.check(2, FIVE + "/over 1/over 1", UNKNOT, 3)

    def test_none(self):
        self.check(0, SEVEN, UNKNOT, 0)
        self.check(0, FIVE, FIGURE_EIGHT, 0)


class Events(Difference):
    """What each kind of event does to the colors."""

    def test_over_and_under(self):
        for one, other in (("over", "under"), ("under", "over")):
            self.check(0, closed(2, times(3, one + " 1")), closed(2, times(3, other + " 1")), 0)
            self.check(0, closed(2, times(3, one + " 1")), UNKNOT, 4)
            self.check(0, closed(2, times(2, one + " 1") + "/%s 1" % other), UNKNOT, 0)
            self.check(0, closed(2, times(5, one + " 1")), UNKNOT, 5)
            self.check(0, closed(3, times(2, "%s 1/%s 2" % (one, other))), UNKNOT, 5)
            self.check(0, closed(3, times(2, "%s 1/%s 2" % (one, one))), UNKNOT, 4)

    def test_over_and_under_at_strands_of_the_top(self):
        # Only a cap below asks something of the colors of both its strands.
        for kind in ("over", "under"):
            self.check(4, "%s/cap 2" % times(3, kind + " 1"), "over 1/cap 2", 3)
            self.check(1, "cup 1/%s/cap 1" % times(3, kind + " 2"), "", 4)
            self.check(1, "cup 1/%s/cap 1" % times(5, kind + " 2"), "", 5)

    def test_cups_and_caps_in_other_places(self):
        other_cups = "cup 1/cup 3/%s/cap %s"
        for count, result in ((3, 4), (5, 5), (7, 0)):
            for caps in ("1/cap 1", "3/cap 1"):
                self.check(0, other_cups % (times(count, "over 2"), caps), UNKNOT, result)
            self.check(0, other_cups % (times(count, "over 2"), "1/cap 1") + "/cup 1",
                       UNKNOT + "/cup 1", result)

    def test_a_cup_between_crossings(self):
        self.check(2, "over 1/cup 2/over 3/over 3/over 3/cap 2", "over 1", 4)
        self.check(2, "cup 2/over 1/over 1/over 1/cap 2/over 1", "over 1", 4)

    def test_colors_of_ends_count(self):
        self.check(2, "cap 1/cup 1", "cap 1/cup 1/cup 3/cap 2", 0)
        self.check(2, TREFOIL + "/cap 1", UNKNOT + "/cap 1", 4)
        self.check(0, TREFOIL + "/cup 1", UNKNOT + "/cup 1", 4)


class Limit(Difference):
    """At most 3000: 3 to the power of 7 and 5 to the power of 4 just are, one more is too many."""

    # Zigzags that make a word with more cups of the same tangle; there is a strand at the top.
    ZIGZAG = "cup 1/cap 2"

    def more(self, events, count):
        return "/".join([events] + [self.ZIGZAG] * count)

    def test_3_colors_and_strands_at_the_top(self):
        for top, result in ((4, 4), (5, 4), (6, 0), (7, 0), (8, 0)):
            self.check(top, TREFOIL, UNKNOT, result)
        for top, result in ((5, 4), (6, 4), (7, 0)):
            self.check(top, "cup 2/%s/cap 2" % times(3, "over 1"), "cup 2/over 1/cap 2", result)

    def test_3_colors_and_cups(self):
        for count, result in ((3, 4), (4, 4), (5, 0), (6, 0)):
            self.check(1, self.more(TREFOIL, count), self.more(UNKNOT, count), result)

    def test_3_colors_and_cups_without_strands_at_the_top(self):
        trefoil, unknot = "cup 1/%s/cap 1" % TREFOIL, "cup 1/%s/cap 1" % UNKNOT
        for count, result in ((3, 4), (4, 4), (5, 0)):
            self.check(0, "cup 1/" + self.more(TREFOIL, count), "cup 1/" + self.more(UNKNOT, count), result)
        self.check(0, trefoil, unknot, 4)

    def test_3_colors_by_one_tangle_alone(self):
        # The one has 7 strands and cups, the other 8; `check` asks both orders.
        self.check(1, self.more(TREFOIL, 4), self.more(UNKNOT, 5), 4)
        self.check(1, self.more(TREFOIL, 4), self.more(UNKNOT, 6), 0)
        self.check(1, self.more(TREFOIL, 5), self.more(UNKNOT, 5), 0)
        self.check(1, self.more(TREFOIL, 5), UNKNOT, 0)
        self.check(1, self.more(TREFOIL, 5), self.more(UNKNOT, 6), 0)

    def test_5_colors_and_strands_at_the_top(self):
        for top, result in ((1, 5), (2, 5), (3, 0), (4, 0), (8, 0)):
            self.check(top, FIVE, UNKNOT, result)

    def test_5_colors_and_cups(self):
        for count, result in ((0, 5), (1, 5), (2, 0), (3, 0)):
            self.check(1, self.more(FIVE, count), self.more(UNKNOT, count), result)

    def test_5_colors_by_one_tangle_alone(self):
        self.check(1, self.more(FIVE, 1), self.more(UNKNOT, 2), 5)
        self.check(1, self.more(FIVE, 1), self.more(UNKNOT, 3), 0)
        self.check(1, self.more(FIVE, 2), self.more(UNKNOT, 2), 0)
        self.check(1, self.more(FIVE, 2), UNKNOT, 0)
        self.check(1, self.more(FIVE, 2), self.more(UNKNOT, 3), 0)

    def test_3_colors_are_compared_where_5_are_not(self):
        self.check(3, TREFOIL, UNKNOT, 4)
        self.check(3, BOTH, FIVE, 4)
        self.check(3, BOTH, TREFOIL, 0)
        self.check(0, BOTH, TREFOIL, 5)

    def test_strands_and_linkings_are_compared_all_the_same(self):
        self.check(12, "over 1/over 1", "", 3)
        self.check(12, "over 1", "", 2)
        self.check_tops((12, ""), (11, ""), 1)


class Counts(unittest.TestCase):
    """The numbers themselves, since call 7 only tells whether two differ."""

    def count(self, top, events, colors):
        bottom = tracing.rows(top, word(events))[-1]
        return coloring_count(Tangle(top, bottom, word(events)), colors)

    def test_knots(self):
        for events, three, five in NUMBERS:
            self.assertEqual([self.count(0, events, colors) for colors in (3, 5)], [three, five])

    def test_without_caps(self):
        for colors in (3, 5):
            self.assertEqual(self.count(0, "", colors), 1)
            self.assertEqual(self.count(3, "", colors), colors ** 3)
            self.assertEqual(self.count(2, "over 1/under 1/cup 2/over 3", colors), colors ** 3)
            self.assertEqual(self.count(0, "cup 1/cup 1", colors), colors ** 2)

    def test_caps(self):
        for colors in (3, 5):
            self.assertEqual(self.count(2, "cap 1", colors), colors)
            self.assertEqual(self.count(2, "over 1/cap 1", colors), colors)
            self.assertEqual(self.count(0, "cup 1/cap 1", colors), colors)
            self.assertEqual(self.count(4, "cap 1/cap 1", colors), colors ** 2)

    def test_each_choice_tried_for_short_words(self):
        found = set()
        for top, length, every in ((0, 4, 7), (1, 4, 17), (2, 4, 29), (3, 4, 113), (4, 3, 29)):
            for events in table.all_words(top, length)[::every]:
                for colors in (3, 5):
                    if colors ** (top + tracing.cups(events)) <= 3000:
                        number = self.count(top, lines(events), colors)
                        self.assertEqual(number, tracing.colorings(top, events, colors), events)
                        found.add(number)
        self.assertLessEqual({3, 9, 27, 5, 25, 125}, found)


def crossings(number, strands, length):
    """Crossings of so many strands, told by the digits of a number."""
    found = []
    for _ in range(length):
        number, digit = divmod(number, 2 * strands - 2)
        found.append("%s %d" % (("over", "under")[digit % 2], digit // 2 + 1))
    return "/".join(found)


class AsInTheDocument(unittest.TestCase):
    """Closed braids against each other, where every choice of colors is tried."""

    def test_closed_braids(self):
        results = set()
        for cups, lengths, every in ((2, (6, 7), 5), (3, (5, 6), 61)):
            for top in (0, 1):
                chosen = [closed(cups, crossings(number, cups, length)) for length in lengths
                          for number in range(3, (2 * cups - 2) ** length, every)]
                for index, first in enumerate(chosen):
                    for second in chosen[index % 11::11]:
                        expected = tracing.difference(top, word(first), top, word(second))
                        answer = difference_of(tangle(top, first), tangle(top, second))
                        self.assertEqual(answer, [expected], (first, second))
                        results.add(expected)
        self.assertEqual(results, {0, 2, 3, 4, 5})


if __name__ == "__main__":
    unittest.main()
