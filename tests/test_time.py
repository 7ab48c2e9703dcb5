import unittest

from tests.helper import BEAT, CALM, HUGE, SOUTH, ask, last, load, printed, table, time, told

EAST = "station A 0 0\nwind A 0 10 0\n"


class Time(unittest.TestCase):
    def test_along_and_square_to_the_wind(self):
        # In a wind to the south its left is the east.
        self.assertEqual(last(load(SOUTH), table([1000, 0]), time(0, 0, 0, 0, -30)), told("3/1"))
        self.assertEqual(last(load(SOUTH), table([0, 1000]), time(0, 0, 0, 30, 0)), told("3/1"))
        self.assertEqual(last(load(SOUTH), table([0, 1000]), time(0, 0, 0, -30, 0)), [-7])
        self.assertEqual(last(load(SOUTH), table([0, -1000]), time(0, 0, 0, -30, 0)), told("3/1"))
        # In a wind to the east its left is the north.
        self.assertEqual(last(load(EAST), table([0, 500]), time(0, 0, 0, 0, 7)), told("7/5"))
        self.assertEqual(last(load(EAST), table([1, 0]), time(0, 0, 0, 1, 0)), told("100/1"))

    def test_a_velocity_goes_as_told(self):
        # (300, 700) in the wind (3, -4): (900 + 2800, -1200 + 2100) over 1000.
        text = "station A 0 0\nwind A 0 3 -4\n"
        self.assertEqual(last(load(text), table([300, 700]), time(0, 0, 0, 37, 9)), told("10/1"))
        self.assertEqual(last(load(text), table([300, 700]), time(0, 0, 0, 37, 10)), [-7])

    def test_the_least_wind_and_velocity(self):
        text = "station A 0 0\nwind A 0 1 0\n"
        self.assertEqual(last(load(text), table([1, 0]), time(0, 0, 0, 1, 0)), told("1000/1"))
        self.assertEqual(last(load(text), table([0, -1]), time(0, 0, 0, 0, -1)), told("1000/1"))

    def test_beating(self):
        self.assertEqual(last(load(SOUTH), table(BEAT), time(0, 0, 0, 0, 100)), told("20/1"))
        self.assertEqual(last(load(SOUTH), table(BEAT), time(0, 0, 0, 50, 50)), told("10/1"))
        self.assertEqual(last(load(SOUTH), table(BEAT), time(0, 0, 0, -20, 100)), told("20/1"))
        self.assertEqual(last(load(SOUTH), table(BEAT), time(0, 0, 0, 101, 100)), [-7])
        self.assertEqual(last(load(SOUTH), table(BEAT), time(0, 0, 0, 0, -1)), [-7])

    def test_two_velocities_beat_a_slow_straight_one(self):
        self.assertEqual(last(load(SOUTH), table(BEAT + [-100, 0]), time(0, 0, 0, 0, 100)), told("20/1"))
        self.assertEqual(last(load(SOUTH), table(BEAT + [-600, 0]), time(0, 0, 0, 0, 100)), told("50/3"))

    def test_the_best_of_velocities_in_one_direction(self):
        for velocities in ([100, 0, 700, 0, 300, 0], [700, 0, 300, 0, -100, 0], [-700, 0, 300, 0, 700, 0]):
            self.assertEqual(last(load(SOUTH), table(velocities), time(0, 0, 0, 0, -7)), told("1/1"))

    def test_resting_velocities_help_nothing(self):
        self.assertEqual(last(load(SOUTH), table([0, 0]), time(0, 0, 0, 0, -7)), [-7])
        self.assertEqual(last(load(SOUTH), table([0, 0, 1000, 0]), time(0, 0, 0, 0, -70)), told("7/1"))

    def test_the_wind_is_that_of_the_place_and_the_time(self):
        text = "station A 0 0\nstation B 100 0\nwind A 0 10 0\nwind A 10 20 0\nwind B 0 30 0\nwind B 10 30 0\n"
        for x, t, answer in ((0, 0, "6/1"), (0, 10, "3/1"), (100, 0, "2/1"), (50, 0, "3/1"), (50, 10, "12/5"),
                             (0, 5, "4/1")):
            self.assertEqual(last(load(text), table([1000, 0]), time(x, 0, t, 60, 0)), told(answer))

    def test_no_way_takes_no_time(self):
        for calls in ([load(SOUTH), table(BEAT)], [load(SOUTH)], [load(CALM), table(BEAT)], [load(CALM)]):
            self.assertEqual(last(*calls, time(0, 0, 0, 0, 0)), told("0/1"))

    def test_a_wind_of_0(self):
        for way in ((1, 0), (0, -1), (3, 4)):
            self.assertEqual(last(load(CALM), table(BEAT), time(0, 0, 0, *way)), [-7])
            self.assertEqual(last(load(CALM), table([1000, 0, -1000, 1, -1000, -1]), time(5, 5, 5, *way)), [-7])

    def test_a_wind_of_0_one_way_is_a_wind(self):
        self.assertEqual(last(load(EAST), table([1000, 0]), time(0, 0, 0, 10, 0)), told("1/1"))
        self.assertEqual(last(load(SOUTH), table([1000, 0]), time(0, 0, 0, 0, -10)), told("1/1"))

    def test_no_table(self):
        for way in ((1, 0), (0, -1), (-100000, 100000)):
            self.assertEqual(last(load(SOUTH), time(0, 0, 0, *way)), [-7])

    def test_no_wind_comes_before_never(self):
        for way in ((0, 0), (1, 0)):
            self.assertEqual(last(time(0, 0, 0, *way)), [-6])
            self.assertEqual(last(load(SOUTH), table(BEAT), time(0, 0, 41, *way)), [-6])

    def test_ranges(self):
        right = [0, 0, 0, 0, 10]
        for place, numbers in ((0, (-100000, 100000)), (1, (-100000, 100000)), (2, (0, 40)), (4, (1, 100000))):
            for number in numbers:
                call = right[:place] + [number] + right[place + 1:]
                self.assertGreater(len(last(load(SOUTH), table(BEAT), time(*call))), 1)
        self.assertEqual(last(load(SOUTH), table(BEAT), time(0, 0, 0, -100000, 100000)), told("20000/1"))
        self.assertEqual(last(load(SOUTH), table(BEAT), time(0, 0, 0, 100000, 100000)), told("20000/1"))
        self.assertEqual(last(load(SOUTH), table([1000, 0]), time(0, 0, 0, 0, -100000)), told("10000/1"))
        late = "station A 0 0\nwind A 100000 0 -10\n"
        self.assertEqual(last(load(late), table(BEAT), time(0, 0, 100000, 0, 100)), told("20/1"))
        for place in range(5):
            for number in (100001, HUGE, -HUGE, -1 if place == 2 else -100001):
                call = right[:place] + [number] + right[place + 1:]
                self.assertEqual(last(load(SOUTH), table(BEAT), time(*call)), [-10])
                self.assertEqual(last(time(*call)), [-10])

    def test_out_of_range_comes_before_never(self):
        self.assertEqual(last(load(CALM), time(0, 0, 0, 100001, 0)), [-10])

    def test_it_changes_nothing(self):
        parts = ask(load(SOUTH), table(BEAT), printed(), time(0, 0, 5, 3, 9), time(0, 0, 5, 3, 9), printed())
        self.assertEqual((parts[2], parts[3]), (parts[5], parts[4]))


if __name__ == "__main__":
    unittest.main()
