import unittest

from tests.helper import BEAT, SOUTH, ask, last, load, printed, speak, table, time, told


def stations(count):
    return "".join(f"station S{k} {k} 0\n" for k in range(count))


def winds(count):
    return "station A 0 0\n" + "".join(f"wind A {t} 1 2\n" for t in range(count))


class LoadCounts(unittest.TestCase):
    def test_counts_of_stations_and_winds(self):
        self.assertEqual(last(load(SOUTH)), [1, 2])
        self.assertEqual(last(load("station A 0 0\nstation B 5 5\nwind B 3 1 1\nwind A 3 1 1\nwind B 1 0 0\n")), [2, 3])

    def test_empty_text(self):
        self.assertEqual(last(load("")), [0, 0])

    def test_a_text_takes_the_place_of_the_one_before(self):
        self.assertEqual(ask(load(SOUTH), load("station B 1 1\n"), printed())[1:], [[1, 0], list(b"station B 1 1\n")])
        self.assertEqual(ask(load(SOUTH), load(""), printed())[1:], [[0, 0], []])

    def test_the_table_stays(self):
        self.assertEqual(last(table(BEAT), load(SOUTH), time(0, 0, 0, 0, 100)), told("20/1"))

    def test_a_refused_text_changes_nothing(self):
        for text in ("station B 1 1\nwrong\n", "x" * 4001):
            self.assertEqual(last(load(SOUTH), load(text), printed()), list(SOUTH.encode()))


class LoadLines(unittest.TestCase):
    def wrong(self, text, line):
        self.assertEqual(last(load(text)), [-1000 - line], text)

    def right(self, text, answer):
        self.assertEqual(last(load(text)), answer, text)

    def test_a_last_line_with_and_without_its_end(self):
        self.right("station A 0 0", [1, 0])
        self.right("station A 0 0\n", [1, 0])
        self.wrong("station A 0 0\nx", 2)
        self.wrong("station A 0 0\nx\n", 2)

    def test_lines_that_stand_for_nothing(self):
        self.right("\n\n   \n#\n  # station\n#x y z\nstation A 0 0\n\n", [1, 0])
        self.right("\n", [0, 0])
        self.right(" ", [0, 0])

    def test_they_are_counted_all_the_same(self):
        self.wrong("\n   \n# remark\nwrong\n", 4)
        self.wrong("\n" * 3999 + "x", 4000)

    def test_the_first_wrong_line_is_told(self):
        self.wrong("x\ny\n", 1)
        self.wrong("station A 0 0\nstation A 0 0\nx\n", 2)

    def test_blanks_between_words(self):
        self.right("   station   A  0    0   \n  wind A  0 1   1 \n", [1, 1])

    def test_bytes_that_are_wrong(self):
        for byte in (0, 9, 11, 13, 31, 127, 128, 255):
            self.assertEqual(last(load(list(b"#a") + [byte])), [-1001], byte)
            self.assertEqual(last(load(list(b"\nstation A 0 0") + [byte])), [-1002], byte)
        self.assertEqual(last(load([byte])), [-1001])

    def test_the_first_and_last_bytes_that_are_not(self):
        self.assertEqual(last(load(list(b"#") + list(range(32, 127)))), [0, 0])

    def test_other_first_words(self):
        for word in ("Station", "STATION", "stations", "statio", "Wind", "winds", "win", "a#", "0"):
            self.wrong(f"{word} A 0 0\n", 1)
            self.wrong(f"station A 0 0\n{word} A 0 0 0\n", 2)

    def test_word_counts(self):
        for line in ("station", "station A", "station A 0", "station A 0 0 0", "station A 0 0 #"):
            self.wrong(line, 1)
        for line in ("wind", "wind A", "wind A 0", "wind A 0 0", "wind A 0 0 0 0", "wind A 0 0 0 #"):
            self.wrong("station A 9 9\n" + line, 2)

    def test_names(self):
        for name in ("A", "z", "0", "9", "-", "a-B-9", "abcdefghijkl", "station", "aZ", "Az", "-0"):
            self.right(f"station {name} 0 0\nwind {name} 0 0 0", [1, 1])
        for name in ("abcdefghijklm", "a_b", "a.b", "#", "a#", "a/", "a:", "a@", "a[", "a`", "a{", "a,"):
            self.wrong(f"station {name} 0 0\n", 1)

    def test_numbers(self):
        for number in ("0", "1", "-1", "10", "99999", "100000", "-100000"):
            self.right(f"station A {number} 0", [1, 0])
            self.right(f"station A 0 {number}", [1, 0])
        for number in ("00", "01", "-0", "-00", "-01", "+1", "--1", "-", "1-", "1.0", "a", "1e2", "100001", "-100001",
                       "9999999", "0000001", "10000000", "-10000000", "/", ":"):
            self.wrong(f"station A {number} 0", 1)
            self.wrong(f"station A 0 {number}", 1)

    def test_ranges_of_winds(self):
        for line in ("wind A 0 0 0", "wind A 100000 0 0", "wind A 0 -1000 0", "wind A 0 1000 0", "wind A 0 0 -1000",
                     "wind A 0 0 1000"):
            self.right("station A 0 0\n" + line, [1, 1])
        for line in ("wind A -1 0 0", "wind A -0 0 0", "wind A 100001 0 0", "wind A 0 -1001 0", "wind A 0 1001 0",
                     "wind A 0 0 -1001", "wind A 0 0 1001", "wind A 0 -0 0", "wind A 00 0 0", "wind A 0 0 x"):
            self.wrong("station A 0 0\n" + line, 2)

    def test_names_and_places_of_stations_are_unlike(self):
        self.wrong("station A 0 0\nstation B 1 1\nstation A 2 2\n", 3)
        self.wrong("station A 0 0\nstation B 1 1\nstation C 0 0\n", 3)
        self.right("station A 0 0\nstation a 0 1\nstation B 1 0\nstation AA 1 1\n", [4, 0])

    def test_a_wind_belongs_to_a_station_told_before(self):
        self.wrong("wind A 0 0 0\nstation A 0 0\n", 1)
        self.wrong("station A 0 0\nwind B 0 0 0\nstation B 1 1\n", 2)
        self.wrong("station A 0 0\nwind a 0 0 0\n", 2)

    def test_times_of_a_station_are_unlike(self):
        self.wrong("station A 0 0\nwind A 5 0 0\nwind A 6 0 0\nwind A 5 1 1\n", 4)
        self.right("station A 0 0\nstation B 1 1\nwind A 5 0 0\nwind B 5 0 0\n", [2, 2])

    def test_the_sixth_and_the_seventh_station(self):
        self.right(stations(6), [6, 0])
        self.wrong(stations(7), 7)

    def test_the_twentieth_and_the_next_wind(self):
        self.right(winds(20), [1, 20])
        self.wrong(winds(21), 22)
        self.right(winds(20) + "station B 1 1\nwind B 0 0 0\n", [2, 21])

    def test_the_longest_text(self):
        text = SOUTH + "#" * (4000 - len(SOUTH))
        self.right(text, [1, 2])
        self.right("\n" * 4000, [0, 0])
        self.assertEqual(last(load(text + "#")), [-8])
        self.assertEqual(last(load("\n" * 5000)), [-8])

    def test_too_long_comes_before_wrong(self):
        self.assertEqual(last(load("wrong\n" * 700)), [-8])
        self.wrong("wrong\n" * 600, 1)

    def test_loaded_winds_speak(self):
        self.assertEqual(last(load(SOUTH), speak(20)), [1, 1])


if __name__ == "__main__":
    unittest.main()
