import random
import unittest

from tests.helper import CALM, HUGE, SOUTH, ask, last, line, load, printed, second_port_end, second_wind, weather_text


def in_wind(e, n):
    return load(f"station A 7 -3\nwind A 0 {e} {n}\n")


def far_weather(x, y, first, second):
    """At x, y: a station 1 off with the first wind, and one whose square is 1000000000 off with the second."""
    return load(weather_text([("A", x + 1, y, {0: first}), ("B", x + 30000, y + 10000, {0: second})]))


class Line(unittest.TestCase):
    def test_the_documents_example(self):
        self.assertEqual(last(load("station A 0 0\nwind A 0 0 -1\n"), line(0, 0, 0, 5)), [1, -5, 0])

    def test_winds_along_each_axis(self):
        for wind, end in (((0, -1), (-5, 0)), ((0, 1), (5, 0)), ((1, 0), (0, -5)), ((-1, 0), (0, 5))):
            self.assertEqual(last(in_wind(*wind), line(0, 0, 0, 5)), [1, *end])
            self.assertEqual(last(in_wind(*wind), line(100, -40, 0, 5)), [1, 100 + end[0], -40 + end[1]])

    def test_how_strong_the_wind_is_makes_no_difference(self):
        for strong in (1, 2, 60, 1000):
            self.assertEqual(last(in_wind(0, -strong), line(0, 0, 0, 5)), [1, -5, 0])
            self.assertEqual(last(in_wind(-strong, -strong), line(0, 0, 0, 5)), [1, -4, 4])

    def test_a_distance_that_is_k_exactly(self):
        # In the wind (6, -8) the whole places lie (-4, -3) apart, 5 away each.
        for k, steps in ((1, 1), (4, 1), (5, 1), (6, 2), (10, 2), (11, 3), (99995, 19999), (99996, 20000),
                         (100000, 20000)):
            self.assertEqual(last(in_wind(6, -8), line(0, 0, 0, k)), [1, -4 * steps, -3 * steps])

    def test_a_distance_that_no_whole_place_meets(self):
        # In the wind (1, 1) the places lie (1, -1) apart: 7 of them are the root of 98 away, 8 that of 128.
        for k, steps in ((1, 1), (2, 2), (9, 7), (10, 8), (11, 8), (12, 9), (100000, 70711), (70711, 50001),
                         (70710, 50000)):
            self.assertEqual(last(in_wind(1, 1), line(0, 0, 0, k)), [1, steps, -steps])

    def test_the_least_and_the_most_k(self):
        self.assertEqual(last(in_wind(0, -9), line(0, 0, 0, 1)), [1, -1, 0])
        self.assertEqual(last(in_wind(0, -9), line(0, 0, 0, 100000)), [1, -100000, 0])
        self.assertEqual(last(in_wind(0, -9), line(-100000, 100000, 0, 100000)), [1, -200000, 100000])
        self.assertEqual(last(in_wind(-999, 1000), line(5, 5, 0, 1)), [1, 1005, 1004])
        self.assertEqual(last(in_wind(-999, 1000), line(5, 5, 0, 1413)), [1, 1005, 1004])
        self.assertEqual(last(in_wind(-999, 1000), line(5, 5, 0, 1414)), [1, 2005, 2003])

    def test_a_wind_of_fractions(self):
        # At the time 1 the wind is (1/2, -2/3), which goes as (3, -4) does.
        text = "station A 0 0\nwind A 0 0 0\nwind A 6 3 -4\n"
        self.assertEqual(last(load(text), line(0, 0, 1, 6)), [1, -8, -6])
        # At the time 2 it is (1/3, 4/3) of one and (2, 1) of the other station; at 3, 0 they count 1/9 and 1/1.
        text = weather_text([("A", 0, 0, {0: (1, 0), 3: (0, 2)}), ("B", 3, 1, {0: (2, 1), 2: (2, 1)})])
        # (1/27 + 2, 4/27 + 1) goes as (55, 31) does.
        self.assertEqual(last(load(text), line(3, 0, 2, 1)), [1, 34, -55])

    def test_a_wind_of_one_fraction(self):
        # (0, 1/2) goes as (0, 1) does, (2, 1/2) as (4, 1).
        self.assertEqual(last(load("station A 0 0\nwind A 0 0 0\nwind A 2 0 1\n"), line(0, 0, 1, 7)), [1, 7, 0])
        self.assertEqual(last(load("station A 0 0\nwind A 0 2 0\nwind A 2 2 1\n"), line(0, 0, 1, 1)), [1, 1, -4])

    def test_by_trying_every_place(self):
        source = random.Random(9)
        found = 0
        for turn in range(60):
            wind = source.randint(-5, 5), source.randint(-5, 5)
            place = source.randint(-9, 9), source.randint(-9, 9)
            k = source.randint(1, 25)
            answer = last(in_wind(*wind), line(*place, 0, k))
            if wind == (0, 0):
                self.assertEqual(answer, [-7])
            else:
                found += 1
                self.assertEqual(answer, [1, *second_port_end(wind, place, k)])
        self.assertGreater(found, 40)

    def test_the_wind_there(self):
        stations = [("A", 0, 0, {0: (0, -1), 10: (1, 0)}), ("B", 10, 0, {0: (0, 3), 10: (-5, 0)})]
        for x, t, end in ((0, 0, (-6, 0)), (0, 10, (0, -6)), (10, 0, (16, 0)), (10, 10, (10, 6)), (5, 0, (11, 0)),
                          (0, 5, (-5, -5))):
            self.assertEqual(last(load(weather_text(stations)), line(x, 0, t, 6)), [1, *end])
        self.assertEqual(second_wind(stations, 5, 0, 0), (0, 1))

    def test_just_within_and_just_beyond(self):
        # The winds (0, 1) and (1, 0) make one that goes as (1, 1000000000): its port end lies (1000000000, -1) off.
        for first, second, off, beyond in (((0, 1), (1, 0), (10 ** 9, -1), (1, 0)),
                                           ((0, -1), (-1, 0), (-10 ** 9, 1), (-1, 0)),
                                           ((-1, 0), (0, 1), (1, 10 ** 9), (0, 1)),
                                           ((1, 0), (0, -1), (-1, -10 ** 9), (0, -1))):
            for k in (1, 100000):
                self.assertEqual(last(far_weather(0, 0, first, second), line(0, 0, 0, k)), [1, *off])
                self.assertEqual(last(far_weather(*beyond, first, second), line(*beyond, 0, k)), [-11])
            nearer = (-5 * beyond[0], -5 * beyond[1])
            self.assertEqual(last(far_weather(*nearer, first, second), line(*nearer, 0, 1)),
                             [1, off[0] + nearer[0], off[1] + nearer[1]])

    def test_one_number_beyond_is_too_far(self):
        # The wind goes as (999, 1000000000) does.
        call = far_weather(0, 0, (0, 1), (999, 0))
        self.assertEqual(last(call, line(0, 0, 0, 1)), [1, 10 ** 9, -999])
        # As (1, 3000000000) it has one number beyond, and nothing divides both; as (3, 3000000000) 3 does.
        call = far_weather(0, 0, (0, 3), (1, 0))
        self.assertEqual(last(call, line(0, 0, 0, 1)), [-11])
        call = far_weather(0, 0, (0, 3), (3, 0))
        self.assertEqual(last(call, line(0, 0, 0, 1)), [1, 10 ** 9, -1])

    def test_much_too_far(self):
        stations = [(f"S{k}", 9973 * k, 99991 - k * k, {0: (k - 3, 1000 - k), 99991: (-k, 17 * k)}) for k in range(6)]
        self.assertEqual(last(load(weather_text(stations)), line(-99999, -99998, 777, 1)), [-11])

    def test_a_wind_of_0(self):
        self.assertEqual(last(load(CALM), line(0, 0, 0, 5)), [-7])
        self.assertEqual(last(load(CALM), line(8, 9, 5, 1)), [-7])
        # Two winds that end one another halfway.
        text = "station A 0 0\nstation B 10 0\nwind A 0 3 -4\nwind B 0 -3 4\n"
        self.assertEqual(last(load(text), line(5, 0, 0, 5)), [-7])
        self.assertEqual(last(load(text), line(0, 0, 0, 5)), [1, -4, -3])

    def test_no_wind(self):
        self.assertEqual(last(line(0, 0, 0, 5)), [-6])
        self.assertEqual(last(load(SOUTH), line(0, 0, 41, 5)), [-6])
        self.assertEqual(last(load("station A 0 0\n"), line(0, 0, 0, 5)), [-6])

    def test_ranges(self):
        right = [0, 0, 0, 5]
        for place, numbers in ((0, (-100000, 100000)), (1, (-100000, 100000)), (2, (0, 40)), (3, (1, 100000))):
            for number in numbers:
                call = right[:place] + [number] + right[place + 1:]
                self.assertEqual(last(load(SOUTH), line(*call)), [1, call[0] - call[3], call[1]])
        late = "station A 0 0\nwind A 100000 0 -10\n"
        self.assertEqual(last(load(late), line(0, 0, 100000, 5)), [1, -5, 0])
        for place, numbers in enumerate([(-100001, 100001)] * 2 + [(-1, 100001), (0, -1, 100001)]):
            for number in numbers + (HUGE, -HUGE):
                call = right[:place] + [number] + right[place + 1:]
                for text in (SOUTH, CALM, ""):
                    self.assertEqual(last(load(text), line(*call)), [-10])

    def test_out_of_range_comes_before_too_far(self):
        self.assertEqual(last(far_weather(1, 0, (0, 1), (1, 0)), line(1, 0, 0, 0)), [-10])

    def test_it_changes_nothing(self):
        for call in (line(3, 4, 5, 6), line(0, 0, 41, 5), line(0, 0, 0, 0)):
            parts = ask(load(SOUTH), printed(), call, call, printed())
            self.assertEqual((parts[1], parts[2]), (parts[4], parts[3]))


if __name__ == "__main__":
    unittest.main()
