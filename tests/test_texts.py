"""What texts are made of, where the weather's narrower bounds would hide it."""

import unittest

from windcourses.texts import bytes_of, is_name, lines_of, read_number, read_signed, words_of


class Texts(unittest.TestCase):
    def test_an_empty_last_piece_is_no_line(self):
        for text, lines in (("", []), ("\n", [""]), ("a", ["a"]), ("a\n", ["a"]), ("a\n\n", ["a", ""]),
                            ("\na\nb", ["", "a", "b"])):
            self.assertEqual(lines_of(bytes_of(text)), [bytes_of(line) for line in lines])

    def test_words_stand_between_blanks(self):
        for line, words in (("", []), ("  ", []), ("a", ["a"]), ("  a   bc ", ["a", "bc"])):
            self.assertEqual(words_of(bytes_of(line)), [bytes_of(word) for word in words])

    def test_numbers_have_at_most_seven_digits(self):
        self.assertEqual(read_number(bytes_of("9999999")), 9999999)
        self.assertEqual(read_number(bytes_of("1000000")), 1000000)
        self.assertIsNone(read_number(bytes_of("10000000")))
        self.assertEqual(read_signed(bytes_of("-9999999")), -9999999)
        self.assertIsNone(read_signed(bytes_of("-10000000")))
        self.assertIsNone(read_number(bytes_of("-1")))

    def test_no_name_is_empty(self):
        self.assertFalse(is_name([]))
        self.assertIsNone(read_number([]))


if __name__ == "__main__":
    unittest.main()
