import unittest

from tests.helper import ask, last, load, observe, printed


def text(*calls):
    return bytes(last(*calls, printed())).decode()


class Printed(unittest.TestCase):
    def test_nothing_for_an_empty_weather(self):
        self.assertEqual(ask(printed()), [[]])
        self.assertEqual(last(load("# nothing\n\n"), printed()), [])

    def test_stations_then_their_winds_by_rising_times(self):
        given = ("# remark\nstation  B  -5 7\n wind B 30 -1 0\n\nwind B 4 1000 -1000\nstation A 100000 -100000\n"
                 "wind A 9 0 0\nwind B 100000 2 3\nwind A 0 5 6")
        wanted = ("station B -5 7\nstation A 100000 -100000\nwind B 4 1000 -1000\nwind B 30 -1 0\nwind B 100000 2 3\n"
                  "wind A 0 5 6\nwind A 9 0 0\n")
        self.assertEqual(text(load(given)), wanted)
        self.assertEqual(text(load(wanted)), wanted)

    def test_stations_without_winds(self):
        self.assertEqual(text(load("station z 0 1\nstation a 0 2")), "station z 0 1\nstation a 0 2\n")

    def test_times_are_ordered_as_numbers(self):
        self.assertEqual(text(load("station A 0 0\nwind A 10 1 1\nwind A 9 2 2\nwind A 100 3 3\n")),
                         "station A 0 0\nwind A 9 2 2\nwind A 10 1 1\nwind A 100 3 3\n")

    def test_what_was_observed_is_written_too(self):
        self.assertEqual(text(load("station A 0 0\nwind A 10 1 1\n"), observe(1, 20, -3, 4), observe(1, 0, 5, -6)),
                         "station A 0 0\nwind A 0 5 -6\nwind A 10 1 1\nwind A 20 -3 4\n")

    def test_it_changes_nothing(self):
        parts = ask(load("station A 0 0\nwind A 10 1 1\n"), printed(), printed())
        self.assertEqual(parts[1], parts[2])

    def test_the_largest_weather_comes_back(self):
        rows = [f"station ABCDEFGHIJ{k} 0 {k}\n" for k in range(6)]
        rows += [f"wind ABCDEFGHIJ{k} {t} 0 0\n" for k in range(6) for t in range(20)]
        whole = "".join(rows)
        self.assertLessEqual(len(whole), 4000)
        self.assertEqual(text(load(whole)), whole)


if __name__ == "__main__":
    unittest.main()
