import unittest

from tests.helper import SOUTH, ask, last, load, observe, printed, stations, weather_text


class Stations(unittest.TestCase):
    def test_none(self):
        self.assertEqual(last(stations()), [0])
        self.assertEqual(last(load("# nothing\n"), stations()), [0])
        self.assertEqual(last(load(SOUTH), load(""), stations()), [0])

    def test_one(self):
        self.assertEqual(last(load(SOUTH), stations()), [1, 0, 0, 2])
        self.assertEqual(last(load("station A -100000 100000\n"), stations()), [1, -100000, 100000, 0])
        self.assertEqual(last(load("station A -1 -2\n"), stations()), [1, -1, -2, 0])

    def test_several_as_they_stand(self):
        many = {t: (1, t) for t in range(20)}
        text = weather_text([("Z", 9, -8, {}), ("B", -7, 6, {5: (0, 0)}), ("A", 5, 4, many), ("b", 0, 0, {3: (1, 1)}),
                             ("9", 1, 0, {}), ("-", 0, 1, {1: (2, 2), 0: (2, 2)})])
        self.assertEqual(last(load(text), stations()), [6, 9, -8, 0, -7, 6, 1, 5, 4, 20, 0, 0, 1, 1, 0, 0, 0, 1, 2])

    def test_what_was_observed_counts(self):
        text = weather_text([("A", 1, 2, {}), ("B", 3, 4, {0: (1, 1)})])
        self.assertEqual(last(load(text), observe(2, 7, 0, 0), stations()), [2, 1, 2, 0, 3, 4, 2])
        self.assertEqual(last(load(text), observe(1, 7, 0, 0), stations()), [2, 1, 2, 1, 3, 4, 1])

    def test_what_was_refused_does_not_count(self):
        text = weather_text([("A", 1, 2, {}), ("B", 3, 4, {0: (1, 1)})])
        self.assertEqual(last(load(text), observe(2, 0, 0, 0), stations()), [2, 1, 2, 0, 3, 4, 1])
        self.assertEqual(last(load(text), load("station C 0 0\nwrong"), stations()), [2, 1, 2, 0, 3, 4, 1])

    def test_it_changes_nothing(self):
        parts = ask(load(SOUTH), printed(), stations(), stations(), printed())
        self.assertEqual((parts[1], parts[2]), (parts[4], parts[3]))


if __name__ == "__main__":
    unittest.main()
