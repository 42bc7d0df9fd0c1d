"""Errors in texts: each code, its line, which of several comes first, and the limits."""

import unittest

from tests.calls import error, load, tangle

THIRTY = "/".join(["over 1"] * 30)
SIXTY = THIRTY + "/" + THIRTY


def twelve(last):
    """Twelve tangles, and a line behind them."""
    return "/".join(["tie %s 2/end" % name for name in "abcdefghijkl"] + [last])


class Code1(unittest.TestCase):
    def test_words_that_begin_no_line(self):
        for line in ("x", "ties a 2", "ove 1", "overs 1", "over1", "1", "?", "mirror", "turned", "over,"):
            self.assertEqual(load(line), error(1, 1), line)
            self.assertEqual(load(tangle(2, line)), error(2, 1), line)

    def test_too_few_words(self):
        for line in ("over", "under", "cup", "cap", "use", "use a", "repeat"):
            self.assertEqual(load("tie a 2/end/tie b 2/" + line), error(4, 1), line)
        for line in ("tie", "tie a", "tie 2"):
            self.assertEqual(load(line + "/end"), error(1, 1), line)

    def test_too_many_words(self):
        for line in ("over 1 1", "under 1 over", "cup 1 2", "cap 1 mirror", "use a 1 2",
                     "use a 1 mirror turned", "use a 1 turned mirror", "use a 1 mirror mirror",
                     "repeat 2 2", "end 1", "end a"):
            self.assertEqual(load("tie a 2/end/tie b 2/" + line), error(4, 1), line)
        self.assertEqual(load("tie a 2/repeat 2/again 2/end"), error(3, 1))
        self.assertEqual(load("tie a 2 2/end"), error(1, 1))

    def test_words_in_another_order(self):
        for line in ("1 over", "use 1 a", "use mirror a 1", "use a mirror 1", "use a 1 mirrors",
                     "use a 1 Mirror", "use a 1 turn"):
            self.assertEqual(load("tie a 2/end/tie b 2/" + line), error(4, 1), line)
        self.assertEqual(load("tie 2 a/end"), error(1, 1))

    def test_strand_number_0(self):
        for line in ("over 0", "under 0", "cup 0", "cap 0", "use a 0", "use a 0 mirror", "use a 0 turned"):
            self.assertEqual(load("tie a 2/end/tie b 2/" + line), error(4, 1), line)

    def test_tie_inside_a_tangle(self):
        self.assertEqual(load("tie a 2/tie b 2/end"), error(2, 1))
        self.assertEqual(load("tie a 2/over 1/tie a 2/end"), error(3, 1))

    def test_other_lines_outside_a_tangle(self):
        for line in ("over 1", "under 1", "cup 1", "cap 1", "use a 1", "repeat 2", "again", "end"):
            self.assertEqual(load(line), error(1, 1), line)
            self.assertEqual(load("tie a 2/end/" + line), error(3, 1), line)

    def test_more_than_12_strands_at_the_top(self):
        self.assertEqual(load("tie a 12/end"), [12, 12, 0, 0])
        self.assertEqual(load("tie a 13/end"), error(1, 1))


class Code2(unittest.TestCase):
    def test_a_name_that_is_used(self):
        self.assertEqual(load("tie a 2/end/tie a 3/end"), error(3, 2))
        self.assertEqual(load("tie a 2/end/tie b 2/end/tie a 2/end"), error(5, 2))
        self.assertEqual(load("tie a 2/end/tie aa 3/end"), [3, 3, 0, 0])

    def test_a_name_that_is_not_there(self):
        self.assertEqual(load("tie a 2/use b 1/end"), error(2, 2))
        self.assertEqual(load("tie a 2/end/tie b 2/use aa 1/end"), error(4, 2))
        self.assertEqual(load("tie a 2/use b 1/end/tie b 2/end"), error(2, 2))

    def test_a_tangle_is_not_there_before_its_end(self):
        self.assertEqual(load("tie a 2/use a 1/end"), error(2, 2))


class Code3(unittest.TestCase):
    def test_crossings_and_caps(self):
        for name in ("over", "under", "cap"):
            for top in range(13):
                for strand in (1, max(top - 1, 1), max(top, 1), top + 1, 99):
                    answer = load(tangle(top, "%s %d" % (name, strand)))
                    if strand + 1 <= top:
                        self.assertEqual(answer[0], top)
                    else:
                        self.assertEqual(answer, error(2, 3), (name, top, strand))

    def test_cups(self):
        for top in range(11):
            self.assertEqual(load(tangle(top, "cup %d" % (top + 1))), [top, top + 2, 1, 0])
            self.assertEqual(load(tangle(top, "cup %d" % (top + 2))), error(2, 3))
            self.assertEqual(load(tangle(top, "cup 99")), error(2, 3))

    def test_strands_that_are_there_no_more_or_only_now(self):
        self.assertEqual(load(tangle(4, "over 3/cap 1/over 3")), error(4, 3))
        self.assertEqual(load(tangle(1, "cup 2/over 2")), [1, 3, 2, 1])
        self.assertEqual(load(tangle(2, "cap 1/cap 1")), error(3, 3))


class Code4(unittest.TestCase):
    def test_again_without_a_repeat(self):
        self.assertEqual(load(tangle(2, "again")), error(2, 4))
        self.assertEqual(load(tangle(2, "repeat 2/again/over 1/again")), error(5, 4))

    def test_another_number_of_strands(self):
        self.assertEqual(load(tangle(2, "repeat 2/cup 1/again")), error(4, 4))
        self.assertEqual(load(tangle(12, "repeat 1/over 1/cap 1/again")), error(5, 4))

    def test_end_with_an_open_repeat(self):
        self.assertEqual(load("tie a 2/repeat 2/end"), error(3, 4))
        self.assertEqual(load("tie a 2/repeat 2/repeat 2/over 1/again/end"), error(6, 4))

    def test_a_repeat_is_not_open_in_the_next_tangle(self):
        self.assertEqual(load("tie a 2/repeat 2/again/end/tie b 2/again/end"), error(6, 4))


class Code5(unittest.TestCase):
    def test_twelve_tangles_and_thirteen(self):
        self.assertEqual(load(twelve("")), [2, 2, 0, 0])
        self.assertEqual(load(twelve("tie m 2/end")), error(25, 5))

    def test_sixty_events_and_sixty_one(self):
        self.assertEqual(load(tangle(2, SIXTY)), [2, 2, 60, 60])
        for line in ("over 1", "under 1", "cup 1", "cap 1"):
            self.assertEqual(load(tangle(2, SIXTY + "/" + line)), error(62, 5), line)

    def test_the_events_of_each_tangle_count_alone(self):
        self.assertEqual(load(tangle(2, SIXTY) + "/tie b 2/%s/end" % SIXTY), [2, 2, 60, 60])

    def test_sixty_events_with_use(self):
        before = "tie b 2/%s/end/tie a 2/" % THIRTY
        self.assertEqual(load(before + "use b 1/use b 1 turned/end"), [2, 2, 60, 60])
        self.assertEqual(load(before + "use b 1 mirror/use b 1/over 1/end"), error(36, 5))
        for way in ("", " mirror", " turned"):
            self.assertEqual(load(before + "use b 1/over 1/use b 1%s/end" % way), error(36, 5))
        self.assertEqual(load("tie b 2/end/tie a 2/%s/use b 1/end" % SIXTY), [2, 2, 60, 60])

    def test_sixty_events_with_again(self):
        five = "repeat 12/over 1/over 1/over 1/over 1/over 1/again"
        self.assertEqual(load(tangle(2, five)), [2, 2, 60, 60])
        self.assertEqual(load(tangle(2, five + "/repeat 12/again")), [2, 2, 60, 60])
        self.assertEqual(load(tangle(2, five + "/over 1")), error(9, 5))
        self.assertEqual(load(tangle(2, "over 1/" + five)), error(9, 5))
        self.assertEqual(load(tangle(2, "repeat 2/%s/over 1/again" % THIRTY)), error(34, 5))
        self.assertEqual(load(tangle(2, "repeat 1/%s/again" % SIXTY)), [2, 2, 60, 60])
        nested = "repeat 3/repeat 4/repeat 5/over 1/again/again/again"
        self.assertEqual(load(tangle(2, nested)), [2, 2, 60, 60])
        self.assertEqual(load(tangle(2, "repeat 12/%s/again" % nested)), error(10, 5))

    def test_twelve_strands_and_thirteen(self):
        self.assertEqual(load(tangle(10, "cup 1")), [10, 12, 1, 0])
        for top, strand in ((11, 1), (11, 12), (12, 1), (12, 13)):
            self.assertEqual(load(tangle(top, "cup %d" % strand)), error(2, 5))
        self.assertEqual(load(tangle(0, "/".join(["cup 1"] * 6))), [0, 12, 6, 0])
        self.assertEqual(load(tangle(0, "/".join(["cup 1"] * 7))), error(8, 5))
        self.assertEqual(load(tangle(12, "cap 1/cup 1")), [12, 12, 2, 0])

    def test_twelve_strands_in_the_middle_of_a_use(self):
        for inserted in ("2/cup 3/cup 1/cap 1/cap 3", "2/cup 1/cap 1/cup 1/cup 1/cap 1/cap 1"):
            for way in ("", " mirror", " turned"):
                text = "tie b %s/end/tie a %%d/use b 2%s/end" % (inserted, way)
                events = inserted.count("/")
                self.assertEqual(load(text % 8), [8, 8, events, 0])
                self.assertEqual(load(text % 9), error(4 + events, 5))
                self.assertEqual(load(text % 10), error(4 + events, 5))

    def test_twelve_strands_in_a_repeat(self):
        self.assertEqual(load(tangle(10, "repeat 12/cup 1/cap 1/again")), [10, 10, 24, 0])
        self.assertEqual(load(tangle(11, "repeat 12/cup 1/cap 1/again")), error(3, 5))

    def test_a_fifth_nested_repeat(self):
        self.assertEqual(load(tangle(2, "repeat 2/" * 4 + "over 1" + "/again" * 4)), [2, 2, 16, 16])
        self.assertEqual(load(tangle(2, "repeat 2/" * 5 + "over 1")), error(6, 5))


class Code6(unittest.TestCase):
    def test_the_empty_text(self):
        self.assertEqual(load(""), error(2, 6))

    def test_no_tangle(self):
        for newlines in range(5):
            self.assertEqual(load("/" * newlines), error(newlines + 2, 6))
            self.assertEqual(load(" /" * newlines + "  "), error(newlines + 2, 6))

    def test_the_text_ends_inside_a_tangle(self):
        self.assertEqual(load("tie a 2"), error(2, 6))
        self.assertEqual(load("tie a 2/"), error(3, 6))
        self.assertEqual(load("tie a 2/over 1//"), error(5, 6))
        self.assertEqual(load("tie a 2/repeat 2"), error(3, 6))
        self.assertEqual(load("tie b 2/end/tie a 2/over 1"), error(5, 6))

    def test_an_error_on_a_line_comes_first(self):
        self.assertEqual(load("tie a 2/over 2"), error(2, 3))
        self.assertEqual(load("/x"), error(2, 1))


class Order(unittest.TestCase):
    def test_the_first_line_counts(self):
        self.assertEqual(load("tie a 2/over 2/over 0/end"), error(2, 3))
        self.assertEqual(load("tie a 2/over 0/over 2/end"), error(2, 1))
        self.assertEqual(load("tie a 2/again/x"), error(2, 4))

    def test_1_before_2(self):
        self.assertEqual(load("tie a 2/end/tie a 13/end"), error(3, 1))
        self.assertEqual(load("tie a 2/end/tie a 02/end"), error(3, 1))
        self.assertEqual(load("tie a 2/end/tie a 2 2/end"), error(3, 1))
        self.assertEqual(load("tie a 2/end/tie b 2/tie a 2/end"), error(4, 1))
        for line in ("use b 0", "use b 01", "use b 1 x", "use b"):
            self.assertEqual(load(tangle(2, line)), error(2, 1), line)

    def test_1_before_3(self):
        self.assertEqual(load(tangle(0, "over 0")), error(2, 1))
        self.assertEqual(load(tangle(2, "cap 5 5")), error(2, 1))
        self.assertEqual(load("tie b 2/end/tie a 2/use b 9 x/end"), error(4, 1))

    def test_1_before_4(self):
        self.assertEqual(load(tangle(2, "again 1")), error(2, 1))
        self.assertEqual(load(tangle(2, "repeat 2/cup 1/again 2")), error(4, 1))
        self.assertEqual(load("tie a 2/repeat 2/end a"), error(3, 1))
        self.assertEqual(load("tie a 2/end/again"), error(3, 1))

    def test_1_before_5(self):
        self.assertEqual(load(twelve("tie m 13/end")), error(25, 1))
        self.assertEqual(load(twelve("tie M 2/end")), error(25, 1))
        self.assertEqual(load(tangle(2, "repeat 2/" * 4 + "repeat 13")), error(6, 1))
        self.assertEqual(load(tangle(2, SIXTY + "/over 0")), error(62, 1))
        self.assertEqual(load(tangle(12, "cup 0")), error(2, 1))

    def test_2_before_3(self):
        self.assertEqual(load(tangle(0, "use b 99")), error(2, 2))

    def test_2_before_5(self):
        self.assertEqual(load(twelve("tie c 2/end")), error(25, 2))
        self.assertEqual(load(tangle(2, SIXTY + "/use b 1")), error(62, 2))

    def test_3_before_5(self):
        for line in ("over 2", "under 2", "cap 2", "cup 4"):
            self.assertEqual(load(tangle(2, SIXTY + "/" + line)), error(62, 3), line)
        self.assertEqual(load(tangle(12, "cup 13")), error(2, 5))
        self.assertEqual(load(tangle(12, "cup 14")), error(2, 3))

    def test_3_before_5_for_all_that_a_use_adds(self):
        long = "tie b 3/%s/end/tie a 2/%s/" % (THIRTY + "/over 1", THIRTY)
        wide = "tie b 3/cup 1/cup 1/cap 1/cap 1/end/tie a 10/"
        for way in ("", " mirror", " turned"):
            self.assertEqual(load(long + "use b 1%s/end" % way), error(65, 3))
            self.assertEqual(load(long + "cup 1/use b 1%s/end" % way), error(66, 5))
            self.assertEqual(load(wide + "use b 9%s/end" % way), error(8, 3))
            self.assertEqual(load(wide + "use b 8%s/end" % way), error(8, 5))

    def test_4_before_5(self):
        self.assertEqual(load(tangle(2, "repeat 12/%s/cup 1/again" % THIRTY)), error(34, 4))
        self.assertEqual(load(tangle(0, "repeat 12/cup 1/again")), error(4, 4))
        self.assertEqual(load(tangle(2, SIXTY + "/again")), error(62, 4))


if __name__ == "__main__":
    unittest.main()
