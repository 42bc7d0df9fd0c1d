"""Program texts without errors, and what a line must look like."""

import unittest

from tests.calls import as_bytes, error, load, load_bytes, tangle, word_of


class Lines(unittest.TestCase):
    def test_each_kind_of_event(self):
        lines = "over 1/under 2/cup 4/cap 1/cup 1/cap 3"
        self.assertEqual(load(tangle(3, lines)), [3, 3, 6, 2])
        self.assertEqual(word_of(tangle(3, lines)), lines)

    def test_events_change_the_number_of_strands(self):
        self.assertEqual(load(tangle(0, "cup 1")), [0, 2, 1, 0])
        self.assertEqual(load(tangle(2, "cap 1")), [2, 0, 1, 0])
        self.assertEqual(load(tangle(5, "cap 4/cap 1/cup 2")), [5, 3, 3, 0])
        self.assertEqual(load(tangle(2, "over 1/under 1")), [2, 2, 2, 2])

    def test_no_events(self):
        for top in (0, 1, 12):
            self.assertEqual(load(tangle(top, "")), [top, top, 0, 0])
            self.assertEqual(word_of(tangle(top, "")), "")

    def test_strands_at_the_edges(self):
        self.assertEqual(load(tangle(12, "over 11/under 11/cap 11")), [12, 10, 3, 2])
        self.assertEqual(load(tangle(9, "cup 10/cap 10")), [9, 9, 2, 0])
        self.assertEqual(load(tangle(10, "cup 11/cap 11")), [10, 10, 2, 0])

    def test_the_main_tangle_is_the_last_one(self):
        text = "tie b 2/over 1/end/tie a 3/under 2/under 1/end"
        self.assertEqual(load(text), [3, 3, 2, 2])
        self.assertEqual(load(text + "/tie c 1/end"), [1, 1, 0, 0])

    def test_lines_without_words(self):
        self.assertEqual(load("//   /tie a 2/ //over 1/  /end/ /"), [2, 2, 1, 1])
        self.assertEqual(load("tie a 2/end"), [2, 2, 0, 0])
        self.assertEqual(load("tie a 2/end/"), [2, 2, 0, 0])
        self.assertEqual(load("tie a 2/end//"), [2, 2, 0, 0])
        self.assertEqual(load("tie a 2/end/    "), [2, 2, 0, 0])

    def test_they_count_as_lines(self):
        self.assertEqual(load("// /tie a 2//over 2/end"), error(6, 3))
        self.assertEqual(load("/x"), error(2, 1))

    def test_spaces(self):
        self.assertEqual(load("   tie    a   2  /  over   1   / end "), [2, 2, 1, 1])
        self.assertEqual(load("tie a 2/over1/end"), error(2, 1))
        self.assertEqual(load("ti e a 2/end"), error(1, 1))


class Numbers(unittest.TestCase):
    def test_numbers_of_a_tie(self):
        for top in range(13):
            self.assertEqual(load("tie a %d/end" % top), [top, top, 0, 0])
        for wrong in ("13", "99", "100", "00", "01", "02", "012", "-1", "+1", "1.", "a", "1a", "?"):
            self.assertEqual(load("tie a %s/end" % wrong), error(1, 1), wrong)

    def test_numbers_of_an_event(self):
        for name in ("over", "under", "cup", "cap"):
            self.assertEqual(load("tie a 2/%s 1/end" % name)[:1], [2])
            for wrong in ("0", "00", "01", "001", "100", "1000", "-1", "+1", "a", "1a"):
                text = "tie a 2/%s %s/end" % (name, wrong)
                self.assertEqual(load(text), error(2, 1), text)

    def test_two_digits(self):
        self.assertEqual(word_of(tangle(12, "over 10/cap 10/cup 11")), "over 10/cap 10/cup 11")
        self.assertEqual(load(tangle(2, "over 10")), error(2, 3))
        self.assertEqual(load(tangle(2, "over 99")), error(2, 3))

    def test_numbers_of_a_repeat(self):
        for times in range(1, 13):
            self.assertEqual(load(tangle(2, "repeat %d/over 1/again" % times)), [2, 2, times, times])
        for wrong in ("0", "13", "99", "01", "012", "100", "a", "-1"):
            self.assertEqual(load(tangle(2, "repeat %s/over 1/again" % wrong)), error(2, 1), wrong)

    def test_numbers_of_a_use(self):
        text = "tie b 1/end/tie a 2/use b %s/end"
        self.assertEqual(load(text % 2), [2, 2, 0, 0])
        for wrong in ("0", "01", "100", "b", "-1"):
            self.assertEqual(load(text % wrong), error(4, 1), wrong)


class Names(unittest.TestCase):
    def test_names_that_are_allowed(self):
        for name in ("a", "z", "abcdefgh", "qrstuvwx", "yzyzyzyz", "tie", "over", "use", "end", "mirror"):
            self.assertEqual(load("tie %s 3/over 2/end/tie x%s 3/use %s 1/end"
                                  % (name, name[:7], name)), [3, 3, 1, 1])

    def test_names_that_are_not(self):
        for name in ("abcdefghi", "A", "aB", "Abc", "a1", "1", "a-b", "a_b", "{", "`", "~", "a~", "!"):
            self.assertEqual(load("tie %s 3/end" % name), error(1, 1), name)
            self.assertEqual(load("tie a 3/use %s 1/end" % name), error(2, 1), name)

    def test_a_line_without_its_name(self):
        self.assertEqual(load("tie  3/end"), error(1, 1))
        self.assertEqual(load("tie a 3/use 1/end"), error(2, 1))

    def test_capitals_in_the_first_word(self):
        self.assertEqual(load("TIE a 2/end"), error(1, 1))
        self.assertEqual(load("tie a 2/Over 1/end"), error(2, 1))
        self.assertEqual(load("tie a 2/end/END"), error(3, 1))


class Bytes(unittest.TestCase):
    GOOD = as_bytes("tie a 2/over 1/end")

    def test_every_byte_of_a_text(self):
        for byte in range(-3, 300):
            valid = byte == 10 or 32 <= byte <= 126
            answer = load_bytes(self.GOOD + [10, byte])
            if byte in (10, 32):
                self.assertEqual(answer, [2, 2, 1, 1], byte)
            else:
                self.assertEqual(answer, error(4, 1) if valid else [-2], byte)

    def test_numbers_that_are_no_bytes(self):
        for number in (-2 ** 53, -256, -10, -1, 0, 9, 11, 13, 31, 127, 128, 255, 256, 266, 288,
                       2 ** 32 + 32, 2 ** 53):
            for place in (0, 7, len(self.GOOD)):
                numbers = self.GOOD[:place] + [number] + self.GOOD[place:]
                self.assertEqual(load_bytes(numbers), [-2], number)

    def test_the_length_of_a_text(self):
        for length in (1999, 2000):
            spaces = [32] * (length - len(self.GOOD))
            self.assertEqual(load_bytes(self.GOOD[:8] + spaces + self.GOOD[8:]), [2, 2, 1, 1])
        for length in (2001, 2050, 2100):
            spaces = [32] * (length - len(self.GOOD))
            self.assertEqual(load_bytes(self.GOOD[:8] + spaces + self.GOOD[8:]), [-2])

    def test_2000_newlines(self):
        self.assertEqual(load_bytes([10] * 2000), error(2002, 6))
        self.assertEqual(load_bytes([10] * 2001), [-2])

    def test_an_invalid_text_ahead_of_an_error_in_it(self):
        self.assertEqual(load_bytes(as_bytes("wrong") + [127]), [-2])
        self.assertEqual(load_bytes([33] + [32] * 2000), [-2])
        self.assertEqual(load_bytes([33] + [32] * 1999), error(1, 1))


if __name__ == "__main__":
    unittest.main()
