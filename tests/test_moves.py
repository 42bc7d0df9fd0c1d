"""Every kind of move: where it applies, where it just does not, and the order of moves."""

import unittest

from tanglemoves.moves import words_by_moves
from tests import table
from tests.calls import path_between, tangle
from tests.words import lines, word

OTHER = {"over": "under", "under": "over"}
CROSSINGS = ("over", "under")


def after(before):
    """The words that the program obtains by one move, as lines."""
    return [lines(events) for events in words_by_moves(word(before))]


class Move(unittest.TestCase):
    def check(self, before, expected):
        """The word has this move and no other, also when it is asked by a call."""
        self.assertEqual(after(before), [expected], before)
        answer, words = path_between(tangle(6, before), tangle(6, expected), 1)
        self.assertEqual(answer[0], 2, before)
        self.assertEqual(words, [before, expected])

    def check_none(self, *words):
        for before in words:
            self.assertEqual(after(before), [], before)


class Kinds1To4(Move):
    def test_kind_1(self):
        for strand in (1, 2, 5):
            for name in CROSSINGS:
                self.check("%s %d/%s %d" % (name, strand, OTHER[name], strand), "")
                self.check_none("%s %d/%s %d" % (name, strand, name, strand))
        self.check_none("over 1/under 2", "over 2/under 1", "under 3/over 2")

    def test_kind_2(self):
        for strand in (1, 3, 7):
            for name in CROSSINGS:
                self.check("cup %d/%s %d" % (strand, name, strand), "cup %d" % strand)

    def test_kind_3(self):
        for strand in (1, 3, 5):
            for name in CROSSINGS:
                self.check("%s %d/cap %d" % (name, strand, strand), "cap %d" % strand)

    def test_kinds_2_and_3_with_the_events_in_another_order(self):
        self.assertEqual(after("over 2/cup 2"), ["cup 2/over 4"])
        self.assertEqual(after("cap 2/over 2"), ["over 4/cap 2"])

    def test_kind_4(self):
        for strand in (1, 2, 6):
            self.check("cup %d/cap %d" % (strand, strand + 1), "")
            self.check("cup %d/cap %d" % (strand + 1, strand), "")

    def test_kind_4_not(self):
        self.check_none("cup 1/cap 1", "cup 4/cap 4")
        self.assertEqual(after("cup 1/cap 3"), ["cap 1/cup 1"])
        self.assertEqual(after("cup 3/cap 1"), ["cap 1/cup 1"])
        self.assertEqual(after("cap 1/cup 2"), ["cup 4/cap 1"])
        self.assertEqual(after("cap 2/cup 1"), ["cup 1/cap 4"])


class Kinds5And6(Move):
    def test_all_crossings(self):
        for strand in (1, 3):
            for x in CROSSINGS:
                for y in CROSSINGS:
                    for z in CROSSINGS:
                        left = "%s %d/%s %d/%s %d" % (x, strand, y, strand + 1, z, strand)
                        right = "%s %d/%s %d/%s %d" % (z, strand + 1, y, strand, x, strand + 1)
                        if x == z and y != x:
                            self.check_none(left, right)
                        else:
                            self.check(left, right)
                            self.check(right, left)

    def test_other_strands(self):
        self.check_none("over 1/over 2/over 3", "over 3/over 2/over 1", "over 2/over 1/over 1",
                        "over 1/over 1/over 2", "over 1/over 2/over 2", "over 1/over 1/over 1",
                        "over 1/over 2")
        self.assertEqual(after("over 1/over 3/over 1"), ["over 3/over 1/over 1", "over 1/over 1/over 3"])

    def test_other_events_at_such_strands(self):
        self.check_none("cup 1/cup 2/cup 3", "cap 3/cap 2/cap 1", "over 1/cup 2/cup 3",
                        "cap 2/over 1/over 2")


class Kind7(Move):
    def test_crossings(self):
        for first in CROSSINGS:
            for second in CROSSINGS:
                self.check("%s 1/%s 3" % (first, second), "%s 3/%s 1" % (second, first))
                self.check("%s 3/%s 1" % (first, second), "%s 1/%s 3" % (second, first))
                self.check_none("%s 1/%s 2" % (first, second), "%s 2/%s 1" % (first, second))

    def test_a_cup_and_a_crossing(self):
        self.check("cup 1/over 3", "over 1/cup 1")
        self.check("cup 3/over 1", "over 1/cup 3")
        self.check("over 1/cup 1", "cup 1/over 3")
        self.check("over 1/cup 3", "cup 3/over 1")
        self.check_none("over 1/cup 2", "over 3/cup 4")

    def test_a_cap_and_a_crossing(self):
        self.check("cap 1/over 1", "over 3/cap 1")
        self.check("cap 3/over 1", "over 1/cap 3")
        self.check("over 3/cap 1", "cap 1/over 1")
        self.check("over 1/cap 3", "cap 3/over 1")
        self.check_none("cap 2/over 1", "cap 4/under 3")

    def test_two_cups(self):
        self.check("cup 1/cup 1", "cup 1/cup 3")
        self.check("cup 2/cup 1", "cup 1/cup 4")
        self.check("cup 1/cup 3", "cup 1/cup 1")
        self.check("cup 1/cup 4", "cup 2/cup 1")
        self.check_none("cup 1/cup 2", "cup 4/cup 5")

    def test_two_caps(self):
        self.check("cap 1/cap 1", "cap 3/cap 1")
        self.check("cap 1/cap 2", "cap 4/cap 1")
        self.check("cap 3/cap 1", "cap 1/cap 1")
        self.check("cap 4/cap 1", "cap 1/cap 2")
        self.check_none("cap 2/cap 1", "cap 4/cap 3")

    def test_a_cup_and_a_cap(self):
        self.check("cup 1/cap 3", "cap 1/cup 1")
        self.check("cup 3/cap 1", "cap 1/cup 1")
        self.check("cup 4/cap 1", "cap 1/cup 2")

    def test_where_both_conditions_hold_the_first_counts(self):
        for strand in (1, 2, 5):
            self.check("cap %d/cup %d" % (strand, strand), "cup %d/cap %d" % (strand, strand + 2))

    def test_a_cap_and_a_cup_elsewhere(self):
        self.check("cap 2/cup 1", "cup 1/cap 4")
        self.check("cap 1/cup 2", "cup 4/cap 1")
        self.check("cap 1/cup 4", "cup 6/cap 1")

    def test_more_strands_than_a_text_may_have(self):
        self.assertEqual(after("cap 1/cup 1"), ["cup 1/cap 3"])
        self.assertEqual(after("cap 1/cup 11"), ["cup 13/cap 1"])


class Kinds8To11(Move):
    def test_kind_8_and_9(self):
        for strand in (1, 4):
            for name in CROSSINGS:
                left = "cup %d/%s %d" % (strand, name, strand + 1)
                right = "cup %d/%s %d" % (strand + 1, OTHER[name], strand)
                self.check(left, right)
                self.check(right, left)

    def test_kind_10_and_11(self):
        for strand in (1, 4):
            for name in CROSSINGS:
                left = "%s %d/cap %d" % (name, strand, strand + 1)
                right = "%s %d/cap %d" % (OTHER[name], strand + 1, strand)
                self.check(left, right)
                self.check(right, left)

    def test_crossings_further_away_only_change_places(self):
        self.check("cup 1/over 3", "over 1/cup 1")
        self.check("cup 4/over 2", "over 2/cup 4")
        self.check("over 1/cap 3", "cap 3/over 1")
        self.check("over 4/cap 2", "cap 2/over 2")

    def test_the_events_in_another_order(self):
        self.check_none("over 1/cup 2", "cap 2/over 1")
        self.assertEqual(after("over 2/cup 1"), ["cup 1/over 4"])
        self.assertEqual(after("cap 1/over 2"), ["over 4/cap 1"])


class Order(unittest.TestCase):
    def test_by_the_index_of_the_first_event(self):
        self.assertEqual(after("over 1/under 1/over 1/over 3/cup 2/over 2"), [
            "over 1/over 3/cup 2/over 2",
            "over 1/over 3/cup 2/over 2",
            "over 1/under 1/over 3/over 1/cup 2/over 2",
            "over 1/under 1/over 1/cup 2/over 5/over 2",
            "over 1/under 1/over 1/over 3/cup 2",
        ])

    def test_no_moves(self):
        self.assertEqual(after(""), [])
        self.assertEqual(after("over 1"), [])
        self.assertEqual(after("over 1/over 1/over 2"), [])

    def test_what_stands_around_stays(self):
        self.assertEqual(after("over 1/over 2/cup 3/cap 4/over 2/over 1"), [
            "over 1/over 2/over 2/over 1",
            "over 1/over 2/cup 3/over 2/cap 4/over 1"])
        self.assertEqual(after("under 2/over 2/over 1/over 2/over 2"), [
            "over 1/over 2/over 2",
            "under 2/over 1/over 2/over 1/over 2"])


class AllShortWords(unittest.TestCase):
    """Every word of a few events, against the rows of the table tried one by one."""

    def compare(self, strands, length):
        kinds = set()
        for events in table.all_words(strands, length):
            moves = table.moves(events)
            self.assertEqual(words_by_moves(events), [other for _, _, other in moves], events)
            indices = [index for index, _, _ in moves]
            self.assertEqual(len(set(indices)), len(indices), events)
            kinds.update(kind for _, kind, _ in moves)
        return kinds

    def test_up_to_three_events(self):
        kinds = set()
        for strands in range(5):
            for length in range(4):
                kinds |= self.compare(strands, length)
        self.assertEqual(kinds, set(range(1, 12)))

    def test_four_events(self):
        for strands in range(4):
            self.compare(strands, 4)

    def test_two_events_of_many_strands(self):
        for strands in (7, 10, 12):
            self.compare(strands, 2)

    def test_a_moved_word_is_a_word_of_the_same_strands(self):
        possible = {length: set(table.all_words(3, length)) for length in range(4)}
        for events in possible[3]:
            for other in words_by_moves(events):
                self.assertIn(other, possible[len(other)])


if __name__ == "__main__":
    unittest.main()
