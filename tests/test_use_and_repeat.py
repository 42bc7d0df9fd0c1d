"""The lines that add several events: use, and repeat with again."""

import unittest

from tanglemoves.tangles import Tangle, mirrored, turned
from tests import table
from tests.calls import error, load, tangle, word_of


def using(inserted, top, line):
    """A text in which tangle `a`, with so many strands, uses the inserted tangle `b`."""
    return "tie b %s/end/tie a %d/%s/end" % (inserted, top, line)


class PlainUse(unittest.TestCase):
    INSERTED = "3/over 1/cup 4/cap 1/under 2"

    def test_strand_numbers_are_moved(self):
        self.assertEqual(word_of(using(self.INSERTED, 3, "use b 1")), "over 1/cup 4/cap 1/under 2")
        self.assertEqual(word_of(using(self.INSERTED, 4, "use b 2")), "over 2/cup 5/cap 2/under 3")
        self.assertEqual(word_of(using(self.INSERTED, 9, "use b 7")), "over 7/cup 10/cap 7/under 8")

    def test_cups_and_caps_change_the_number_of_strands(self):
        self.assertEqual(load(using("2/cap 1", 4, "use b 3")), [4, 2, 1, 0])
        self.assertEqual(load(using("0/cup 1", 4, "use b 5")), [4, 6, 1, 0])
        self.assertEqual(load(using("0/cup 1/cup 2", 0, "use b 1/cap 2/over 1")), [0, 2, 4, 1])

    def test_it_stands_between_other_lines(self):
        text = using("2/over 1", 3, "under 1/use b 2/cup 1/use b 4/use b 1")
        self.assertEqual(word_of(text), "under 1/over 2/cup 1/over 4/over 1")

    def test_a_tangle_that_uses_others(self):
        text = "tie b 2/over 1/end/tie c 3/use b 2/under 1/end/tie a 5/use c 3/use b 1/use c 1/end"
        self.assertEqual(word_of(text), "over 4/under 3/over 1/over 2/under 1")

    def test_a_tangle_without_events(self):
        self.assertEqual(load(using("3", 4, "use b 2")), [4, 4, 0, 0])
        self.assertEqual(load(using("0", 4, "use b 5")), [4, 4, 0, 0])
        self.assertEqual(load(using("0", 0, "use b 1 mirror/use b 1 turned")), [0, 0, 0, 0])

    def test_the_strands_that_it_needs(self):
        self.assertEqual(load(using("3/over 1", 5, "use b 3")), [5, 5, 1, 1])
        self.assertEqual(load(using("3/over 1", 5, "use b 4")), error(5, 3))
        self.assertEqual(load(using("0/cup 1", 5, "use b 6")), [5, 7, 1, 0])
        self.assertEqual(load(using("0/cup 1", 5, "use b 7")), error(5, 3))
        self.assertEqual(load(using("0", 5, "use b 7")), error(4, 3))
        self.assertEqual(load(using("4", 3, "use b 1")), error(4, 3))
        self.assertEqual(load(using("1", 12, "use b 12")), [12, 12, 0, 0])
        self.assertEqual(load(using("1", 12, "use b 13")), error(4, 3))

    def test_they_are_counted_where_the_line_stands(self):
        self.assertEqual(load(using("3/over 1", 5, "cap 1/use b 1")), [5, 3, 2, 1])
        self.assertEqual(load(using("3/over 1", 5, "cap 1/use b 2")), error(6, 3))


class Mirror(unittest.TestCase):
    def test_every_kind_of_event(self):
        inserted = "3/over 1/cup 4/cap 1/under 2"
        self.assertEqual(word_of(using(inserted, 3, "use b 1 mirror")), "under 2/cup 1/cap 4/over 1")
        self.assertEqual(word_of(using(inserted, 7, "use b 4 mirror")), "under 5/cup 4/cap 7/over 4")

    def test_cups_at_both_edges(self):
        self.assertEqual(word_of(using("4/cup 1", 4, "use b 1 mirror")), "cup 5")
        self.assertEqual(word_of(using("4/cup 5", 4, "use b 1 mirror")), "cup 1")
        self.assertEqual(word_of(using("0/cup 1", 0, "use b 1 mirror")), "cup 1")

    def test_the_strands_of_the_inserted_tangle_count(self):
        self.assertEqual(word_of(using("2/cup 3/over 1", 6, "use b 2 mirror")), "cup 2/under 4")
        self.assertEqual(load(using("3/over 1", 5, "use b 3 mirror")), [5, 5, 1, 1])
        self.assertEqual(load(using("3/over 1", 5, "use b 4 mirror")), error(5, 3))

    def test_twice_is_as_before(self):
        for word in table.all_words(3, 3)[::7]:
            once = mirrored(Tangle(3, 9, word))
            self.assertEqual([1 - kind for kind, _ in word if kind < 2],
                             [kind for kind, _ in once.word if kind < 2])
            self.assertEqual(mirrored(once).word, word)
            self.assertEqual((once.top, once.bottom), (3, 9))
            self.assertIn(once.word, table.all_words(3, 3))

    def test_a_mirrored_tangle_mirrored(self):
        text = ("tie b 3/over 1/cup 4/cap 1/under 2/end/tie c 3/use b 1 mirror/end"
                "/tie a 4/use c 2 mirror/end")
        self.assertEqual(word_of(text), "over 2/cup 5/cap 2/under 3")


class Turned(unittest.TestCase):
    def test_every_kind_of_event(self):
        inserted = "3/over 1/cup 4/cap 1/under 2"
        self.assertEqual(word_of(using(inserted, 3, "use b 1 turned")), "over 2/cup 1/cap 4/under 1")
        self.assertEqual(word_of(using(inserted, 7, "use b 4 turned")), "over 5/cup 4/cap 7/under 4")

    def test_the_strands_at_the_bottom_count(self):
        self.assertEqual(load(using("4/cap 1", 2, "use b 1 turned")), [2, 4, 1, 0])
        self.assertEqual(load(using("4/cap 1", 2, "use b 2 turned")), error(5, 3))
        self.assertEqual(load(using("4/cap 1", 1, "use b 1 turned")), error(5, 3))
        self.assertEqual(word_of(using("2/cup 1", 4, "use b 1 turned")), "cap 1")
        self.assertEqual(load(using("2/cup 1", 3, "use b 1 turned")), error(5, 3))
        self.assertEqual(load(using("0/cup 1", 4, "use b 3 turned")), [4, 2, 1, 0])
        self.assertEqual(load(using("0/cup 1", 4, "use b 4 turned")), error(5, 3))
        self.assertEqual(load(using("2/cap 1", 4, "use b 5 turned")), [4, 6, 1, 0])
        self.assertEqual(load(using("2/cap 1", 4, "use b 6 turned")), error(5, 3))

    def test_twice_is_as_before(self):
        for word in table.all_words(3, 3)[::7]:
            once = turned(Tangle(3, 5, word))
            self.assertEqual((once.top, once.bottom), (5, 3))
            self.assertEqual(turned(once).word, word)

    def test_a_turned_tangle_takes_a_tangle_back(self):
        text = using("3/over 1/under 2/cup 4/cap 1", 3, "use b 1/use b 1 turned")
        self.assertEqual(load(text), [3, 3, 8, 4])

    def test_mirror_and_turned_one_after_the_other(self):
        text = "tie b 2/cup 3/over 1/end/tie c 2/use b 1 mirror/end/tie a 4/use c 1 turned/end"
        self.assertEqual(word_of(text), "over 3/cap 1")


class Repeats(unittest.TestCase):
    def test_once_and_twelve_times(self):
        self.assertEqual(word_of(tangle(3, "repeat 1/over 1/under 2/again")), "over 1/under 2")
        self.assertEqual(word_of(tangle(3, "repeat 12/over 1/under 2/again")),
                         "/".join(["over 1/under 2"] * 12))

    def test_what_stands_around_is_not_repeated(self):
        self.assertEqual(word_of(tangle(2, "under 1/repeat 3/over 1/again/cup 1")),
                         "under 1/over 1/over 1/over 1/cup 1")

    def test_zero_and_thirteen_times(self):
        self.assertEqual(load(tangle(2, "repeat 0/over 1/again")), error(2, 1))
        self.assertEqual(load(tangle(2, "repeat 13/over 1/again")), error(2, 1))

    def test_empty(self):
        self.assertEqual(load(tangle(2, "repeat 12/again")), [2, 2, 0, 0])
        self.assertEqual(load(tangle(2, "over 1/repeat 5/repeat 3/again/again")), [2, 2, 1, 1])

    def test_nested(self):
        self.assertEqual(word_of(tangle(2, "repeat 2/over 1/repeat 3/under 1/again/again")),
                         "/".join(["over 1/under 1/under 1/under 1"] * 2))
        self.assertEqual(word_of(tangle(2, "repeat 2/repeat 2/under 1/again/over 1/again")),
                         "under 1/under 1/over 1/under 1/under 1/over 1")
        self.assertEqual(load(tangle(2, "repeat 2/" * 3 + "repeat 7/over 1" + "/again" * 4)),
                         [2, 2, 56, 56])

    def test_four_deep_and_five_deep(self):
        four = "repeat 1/" * 4 + "over 1" + "/again" * 4
        self.assertEqual(load(tangle(2, four)), [2, 2, 1, 1])
        five = "repeat 1/" * 5 + "over 1" + "/again" * 5
        self.assertEqual(load(tangle(2, five)), error(6, 5))
        self.assertEqual(load(tangle(2, "repeat 1/" * 7)), error(6, 5))

    def test_four_deep_twice(self):
        four = "repeat 1/" * 4 + "over 1" + "/again" * 4
        self.assertEqual(load(tangle(2, four + "/" + four)), [2, 2, 2, 2])
        three_again = "repeat 1/" * 4 + "again/repeat 1/again" + "/again" * 3
        self.assertEqual(load(tangle(2, three_again)), [2, 2, 0, 0])

    def test_another_number_of_strands(self):
        for times in (1, 2, 12):
            self.assertEqual(load(tangle(2, "repeat %d/cup 1/again" % times)), error(4, 4))
            self.assertEqual(load(tangle(2, "repeat %d/cap 1/again" % times)), error(4, 4))
            self.assertEqual(load(tangle(2, "repeat %d/cup 1/cap 2/again" % times)),
                             [2, 2, 2 * times, 0])

    def test_another_number_of_strands_in_between(self):
        text = tangle(4, "repeat 2/cap 1/repeat 3/over 1/again/cup 1/again")
        self.assertEqual(word_of(text), "/".join(["cap 1/over 1/over 1/over 1/cup 1"] * 2))

    def test_the_inner_number_of_strands_counts_for_the_inner_repeat(self):
        self.assertEqual(load(tangle(2, "repeat 2/cup 1/repeat 2/cap 1/again/again")), error(6, 4))
        self.assertEqual(load(tangle(2, "repeat 2/cup 1/repeat 2/over 1/again/again")), error(7, 4))

    def test_use_within_a_repeat(self):
        self.assertEqual(word_of(using("2/over 1", 4, "repeat 2/use b 3/use b 2 mirror/again")),
                         "over 3/under 2/over 3/under 2")

    def test_use_of_a_tangle_with_a_repeat(self):
        self.assertEqual(word_of(using("2/repeat 3/over 1/again", 4, "use b 3")),
                         "over 3/over 3/over 3")


if __name__ == "__main__":
    unittest.main()
