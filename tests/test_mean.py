import random
import unittest

from tests.helper import HUGE, SOUTH, ask, fractions_in, last, load, mean, observe, printed, second_mean, told
from tests.helper import weather_text

# Three spans of 10, 30 and 10.
SPANS = weather_text([("A", 0, 0, {10: (0, 4), 20: (10, -4), 50: (40, -4), 60: (0, 0)}),
                      ("B", 5, 5, {0: (1, 1), 100: (1, 1)})])


class Mean(unittest.TestCase):
    def test_within_one_span(self):
        self.assertEqual(last(load(SPANS), mean(1, 20, 50)), told("25/1", "-4/1"))
        self.assertEqual(last(load(SPANS), mean(1, 10, 20)), told("5/1", "0/1"))
        # From (1, 16/5) to (3, 8/5).
        self.assertEqual(last(load(SPANS), mean(1, 11, 13)), told("2/1", "12/5"))
        self.assertEqual(last(load(SPANS), mean(1, 30, 31)), told("41/2", "-4/1"))

    def test_over_several_times_seen(self):
        # 5 a second for 10 seconds, 25 for 30 and 20 for 10; north 0, -4 and -2.
        self.assertEqual(last(load(SPANS), mean(1, 10, 60)), told("20/1", "-14/5"))
        # 5 seconds of 15/2 and 5 of 25/2; north 5 of -2 and 5 of -4.
        self.assertEqual(last(load(SPANS), mean(1, 15, 25)), told("10/1", "-3/1"))
        # 1 second of 19/2, 30 of 25, 1 of 38; north 1 of -18/5, 30 of -4, 1 of -19/5.
        self.assertEqual(last(load(SPANS), mean(1, 19, 51)), told("1595/64", "-637/160"))
        self.assertEqual(last(load(SPANS), mean(1, 10, 50)), told("20/1", "-3/1"))
        self.assertEqual(last(load(SPANS), mean(1, 20, 60)), told("95/4", "-7/2"))

    def test_the_other_station(self):
        self.assertEqual(last(load(SPANS), mean(2, 0, 100)), told("1/1", "1/1"))
        self.assertEqual(last(load(SPANS), mean(2, 33, 34)), told("1/1", "1/1"))

    def test_winds_that_were_observed_count(self):
        self.assertEqual(last(load(SOUTH), mean(1, 0, 40)), told("0/1", "-15/1"))
        self.assertEqual(last(load(SOUTH), observe(1, 10, 8, 0), mean(1, 0, 40)), told("4/1", "-35/4"))
        self.assertEqual(last(load(SOUTH), observe(1, 50, 8, 0), mean(1, 40, 50)), told("4/1", "-10/1"))

    def test_a_wind_of_0(self):
        self.assertEqual(last(load("station A 0 0\nwind A 0 0 0\nwind A 9 0 0\n"), mean(1, 1, 8)), told("0/1", "0/1"))
        self.assertEqual(last(load("station A 0 0\nwind A 0 3 -3\nwind A 9 -3 3\n"), mean(1, 0, 9)), told("0/1", "0/1"))

    def test_by_a_second_way(self):
        source = random.Random(14)
        for turn in range(100):
            seen = {source.randint(0, 25): (source.randint(-1000, 1000), source.randint(-1000, 1000))
                    for sight in range(source.randint(2, 20))}
            if len(seen) < 2:
                continue
            t = source.randint(min(seen), max(seen) - 1)
            s = source.randint(t + 1, max(seen))
            answer = last(load(weather_text([("A", 1, 1, {3: (5, 5)}), ("B", 0, 0, seen)])), mean(2, t, s))
            self.assertEqual(fractions_in(answer), second_mean(seen, t, s))

    def test_the_whole_of_the_time(self):
        text = "station A 0 0\nwind A 100000 -1000 7\nwind A 0 1000 7\nwind A 1 1000 -1000\n"
        # East 1000 for a second, then 0; north -993/2 for a second, then it as well.
        self.assertEqual(last(load(text), mean(1, 0, 100000)), told("1/100", "-993/2"))

    def test_no_such_station(self):
        for i in (0, -1, 3, HUGE, -HUGE):
            self.assertEqual(last(load(SPANS), mean(i, 20, 30)), [-2])
            self.assertEqual(last(load(SPANS), mean(i, 30, 20)), [-2])
            self.assertEqual(last(load(SPANS), mean(i, -1, HUGE)), [-2])
        self.assertEqual(last(mean(1, 0, 1)), [-2])

    def test_times_out_of_range(self):
        for t, s in ((-1, 30), (30, 100001), (100000, 100001), (-HUGE, 30), (30, HUGE), (HUGE, 30), (30, -HUGE)):
            self.assertEqual(last(load(SPANS), mean(1, t, s)), [-10])

    def test_the_second_time_must_be_greater(self):
        for t, s in ((30, 30), (30, 29), (0, 0), (100000, 100000), (5, 0), (70, 65), (60, 10)):
            self.assertEqual(last(load(SPANS), mean(1, t, s)), [-10])

    def test_it_does_not_speak_at_one_of_both(self):
        for t, s in ((9, 20), (50, 61), (9, 61), (0, 100000), (0, 9), (61, 99)):
            self.assertEqual(last(load(SPANS), mean(1, t, s)), [-6])
        self.assertEqual(last(load("station A 0 0\n"), mean(1, 0, 1)), [-6])
        self.assertEqual(last(load("station A 0 0\nwind A 5 1 1\n"), mean(1, 5, 6)), [-6])

    def test_it_changes_nothing(self):
        for call in (mean(1, 3, 9), mean(1, 3, 41), mean(1, 3, 3), mean(2, 3, 9)):
            parts = ask(load(SOUTH), printed(), call, call, printed())
            self.assertEqual((parts[1], parts[2]), (parts[4], parts[3]))


if __name__ == "__main__":
    unittest.main()
