import unittest

from tests.helper import HUGE, SOUTH, ask, last, load, observe, printed, second_wind, told, fractions_in, weather_text
from tests.helper import wind

TWO = "station A 0 0\nstation B 10 0\nwind A 0 10 0\nwind A 10 10 0\nwind B 0 0 20\nwind B 20 0 20\n"


class WindOfAStation(unittest.TestCase):
    def test_it_goes_evenly(self):
        for t, text in ((0, "-10/1"), (1, "-41/4"), (10, "-25/2"), (20, "-15/1"), (39, "-79/4"), (40, "-20/1")):
            self.assertEqual(last(load(SOUTH), wind(0, 0, t)), told("0/1", text))

    def test_one_station_is_heard_everywhere(self):
        for x, y in ((1, 0), (100000, -100000), (-7, 3)):
            self.assertEqual(last(load(SOUTH), wind(x, y, 10)), told("0/1", "-25/2"))

    def test_from_sight_to_sight(self):
        text = "station A 0 0\nwind A 30 9 -9\nwind A 0 0 0\nwind A 10 3 6\n"
        for t, east, north in ((5, "3/2", "3/1"), (10, "3/1", "6/1"), (12, "18/5", "9/2"), (20, "6/1", "-3/2")):
            self.assertEqual(last(load(text), wind(0, 0, t)), told(east, north))

    def test_before_the_first_and_behind_the_last(self):
        text = "station A 0 0\nwind A 5 1 1\nwind A 9 1 1\n"
        for t, answer in ((4, [-6]), (5, told("1/1", "1/1")), (9, told("1/1", "1/1")), (10, [-6])):
            self.assertEqual(last(load(text), wind(0, 0, t)), answer)

    def test_a_single_sight_is_heard_at_its_time_alone(self):
        text = "station A 0 0\nwind A 5 -3 4\n"
        self.assertEqual([last(load(text), wind(1, 1, t)) for t in (4, 5, 6)], [[-6], told("-3/1", "4/1"), [-6]])


class WindAtAPlace(unittest.TestCase):
    def test_by_the_squares_of_distances(self):
        self.assertEqual(last(load(TWO), wind(5, 0, 5)), told("5/1", "10/1"))
        self.assertEqual(last(load(TWO), wind(5, 77, 5)), told("5/1", "10/1"))
        # 4 and 64 are the squares, so A counts 16 times as much as B.
        self.assertEqual(last(load(TWO), wind(2, 0, 5)), told("160/17", "20/17"))
        # 100 and 200: A counts twice as much.
        self.assertEqual(last(load(TWO), wind(0, -10, 5)), told("20/3", "20/3"))

    def test_where_a_station_stands(self):
        self.assertEqual(last(load(TWO), wind(0, 0, 5)), told("10/1", "0/1"))
        self.assertEqual(last(load(TWO), wind(10, 0, 5)), told("0/1", "20/1"))

    def test_where_a_silent_station_stands_the_others_count(self):
        self.assertEqual(last(load(TWO), wind(0, 0, 15)), told("0/1", "20/1"))
        three = TWO + "station C 0 5\nstation D 0 -5\nwind C 15 6 0\nwind D 15 0 6\n"
        # 100, 25 and 25: B counts a quarter of each other.
        self.assertEqual(last(load(three), wind(0, 0, 15)), told("8/3", "44/9"))

    def test_no_wind(self):
        self.assertEqual(last(wind(0, 0, 0)), [-6])
        self.assertEqual(last(load("station A 0 0\n"), wind(0, 0, 0)), [-6])
        self.assertEqual(last(load(TWO), wind(0, 0, 21)), [-6])

    def test_a_wind_of_0_is_told(self):
        self.assertEqual(last(load("station A 0 0\nwind A 0 0 0\n"), wind(3, 3, 0)), told("0/1", "0/1"))
        even = "station A -1 0\nstation B 1 0\nwind A 0 5 -7\nwind B 0 -5 7\n"
        self.assertEqual(last(load(even), wind(0, 0, 0)), told("0/1", "0/1"))

    def test_ranges(self):
        for x, y in ((-100000, 0), (100000, 0), (0, -100000), (0, 100000)):
            self.assertEqual(last(load(SOUTH), wind(x, y, 0)), told("0/1", "-10/1"))
        late = "station A 0 0\nwind A 100000 1 2\n"
        self.assertEqual(last(load(late), wind(0, 0, 100000)), told("1/1", "2/1"))
        for x, y, t in ((-100001, 0, 0), (100001, 0, 0), (0, -100001, 0), (0, 100001, 0), (0, 0, -1), (0, 0, 100001),
                        (HUGE, 0, 0), (0, -HUGE, 0), (0, 0, HUGE)):
            self.assertEqual(last(load(SOUTH), wind(x, y, t)), [-10])

    def test_out_of_range_comes_before_no_wind(self):
        self.assertEqual(last(wind(100001, 0, 0)), [-10])
        self.assertEqual(last(wind(0, 0, -1)), [-10])

    def test_it_changes_nothing(self):
        parts = ask(load(TWO), printed(), wind(1, 2, 3), wind(1, 2, 3), printed())
        self.assertEqual(parts[1], parts[4])
        self.assertEqual(parts[2], parts[3])

    def test_a_second_way_of_reckoning(self):
        stations = [("A", -100000, 99999, {0: (1000, -999), 99991: (-7, 3)}),
                    ("B", 99991, 100000, {3: (-1000, 1), 50000: (17, 19), 100000: (1, 1)}),
                    ("C", 1, 1, {7: (0, 0), 99989: (1000, 1000)}),
                    ("D", -31, 17, {11: (5, 5), 12: (6, 6)}),
                    ("E", 0, -77777, {5: (-13, 1000), 77777: (311, 313)}),
                    ("F", 54321, -1, {0: (1, 2)})]
        for x, y, t in ((0, 0, 0), (0, 0, 12), (1, 1, 12), (-31, 17, 13), (99999, -99999, 12345), (-5, 6, 90000),
                        (100000, 100000, 100000), (99991, 99999, 77777)):
            answer = last(load(weather_text(stations)), wind(x, y, t))
            self.assertEqual(tuple(fractions_in(answer)), second_wind(stations, x, y, t))

    def test_an_observed_wind_counts(self):
        self.assertEqual(last(load(TWO), observe(1, 20, 30, 0), wind(5, 0, 15)), told("10/1", "10/1"))


if __name__ == "__main__":
    unittest.main()
