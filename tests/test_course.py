import unittest

from tests.helper import BEAT, CALM, HUGE, SOUTH, ask, course, fractions_in, last, load, printed, second_time
from tests.helper import second_wind, table, told, weather_text


class Course(unittest.TestCase):
    def sail(self, t, places, text=SOUTH, velocities=None):
        return last(load(text), table(velocities or BEAT), course(t, places))

    def test_one_leg(self):
        self.assertEqual(self.sail(0, [0, 0, 0, 50]), [1] + told("10/1"))
        self.assertEqual(self.sail(20, [0, 0, 0, 50]), [1] + told("80/3"))

    def test_the_second_leg_is_sailed_in_the_wind_at_its_beginning(self):
        # At the moment 10 the wind is 25/2, so one goes 25/4 against it.
        self.assertEqual(self.sail(0, [0, 0, 0, 50, 0, 100]), [2] + told("10/1", "18/1"))
        self.assertEqual(self.sail(0, [0, 0, 0, 50, 0, 110]), [2] + told("10/1", "98/5"))

    def test_moments_between_whole_times(self):
        # At the moment 53/5 the wind is 253/20.
        self.assertEqual(self.sail(0, [0, 0, 0, 53, 0, 63]), [2] + told("53/5", "15409/1265"))

    def test_the_wind_is_that_at_the_place_of_the_beginning(self):
        text = ("station A 0 0\nstation B 100 0\nwind A 0 10 0\nwind A 100 10 0\nwind B 0 20 0\nwind B 100 20 0\n")
        self.assertEqual(self.sail(3, [0, 0, 100, 0, 200, 0], text, [1000, 0]), [2] + told("13/1", "18/1"))

    def test_up_to_the_first_without_wind(self):
        self.assertEqual(self.sail(0, [0, 0, 0, 201, 0, 202]), [1] + told("201/5"))
        self.assertEqual(self.sail(0, [0, 0, 0, 201, 0, 201]), [1] + told("201/5"))
        self.assertEqual(self.sail(41, [0, 0, 0, 1, 0, 2]), [0])
        self.assertEqual(self.sail(41, [0, 0, 0, 0]), [0])
        self.assertEqual(last(course(0, [0, 0, 0, 0])), [0])

    def test_the_last_moment_at_which_there_is_wind(self):
        self.assertEqual(self.sail(0, [0, 0, 0, 200, 0, 210]), [2] + told("40/1", "41/1"))

    def test_up_to_the_first_that_is_never_sailed(self):
        self.assertEqual(self.sail(0, [0, 0, 0, 50, 0, 49]), [1] + told("10/1"))
        self.assertEqual(self.sail(0, [0, 0, 0, -50, 0, 49]), [0])
        self.assertEqual(self.sail(0, [0, 0, 0, 50], CALM), [0])
        self.assertEqual(last(load(SOUTH), course(0, [0, 0, 0, 50])), [0])

    def test_no_way(self):
        self.assertEqual(self.sail(7, [3, 3, 3, 3]), [1] + told("7/1"))
        self.assertEqual(self.sail(7, [3, 3, 3, 3, 3, 3]), [2] + told("7/1", "7/1"))
        self.assertEqual(self.sail(7, [3, 3, 3, 3, 3, 3], CALM), [2] + told("7/1", "7/1"))
        self.assertEqual(last(load(SOUTH), course(7, [3, 3, 3, 3, 3, 4])), [1] + told("7/1"))

    def test_the_list(self):
        for size in (0, 1, 2, 3, 5, 7, 8, 40):
            self.assertEqual(self.sail(0, [0] * size), [-9])
        for place in range(6):
            for number in (100001, -100001, HUGE, -HUGE):
                places = [0] * 6
                places[place] = number
                self.assertEqual(self.sail(0, places), [-9])
                if place < 4:
                    self.assertEqual(self.sail(0, places[:4]), [-9])

    def test_the_ends_of_ranges(self):
        self.assertEqual(self.sail(0, [-100000, -100000, 100000, 100000]), [1] + told("40000/1"))
        self.assertEqual(self.sail(0, [100000, -100000, -100000, 100000]), [1] + told("40000/1"))
        late = "station A 0 0\nwind A 100000 0 -10\n"
        self.assertEqual(self.sail(100000, [0, 0, 0, 50, 0, 60], late), [1] + told("100010/1"))
        for t in (-1, 100001, HUGE, -HUGE):
            self.assertEqual(self.sail(t, [0, 0, 0, 50]), [-10])

    def test_out_of_range_comes_before_a_wrong_list(self):
        self.assertEqual(self.sail(-1, [0]), [-10])
        self.assertEqual(self.sail(100001, [100001, 0, 0, 0]), [-10])

    def test_it_changes_nothing(self):
        call = course(0, [0, 0, 0, 53, 0, 63])
        parts = ask(load(SOUTH), table(BEAT), printed(), call, call, printed())
        self.assertEqual((parts[2], parts[3]), (parts[5], parts[4]))

    def test_a_second_way_of_reckoning(self):
        stations = [(name, x, y, {0: (e, n), t: (n, e)}) for name, x, y, t, e, n in (
            ("A", -99991, 99989, 99991, 997, -991), ("B", 99971, 99961, 99989, 983, -977), ("C", 3, 7, 99971, 971, 967),
            ("D", -31, 17, 99961, 953, 947), ("E", 11, -77773, 99929, 941, 937), ("F", 54323, -5, 99923, 929, 919))]
        velocities = [2999, 1, -997, 2003, -991, -2011, 13, 17]
        places = [(-99999, -99997), (98999, 97001), (-12345, 54321)]
        moment = 12347
        wanted = []
        for (x, y), (u, v) in zip(places, places[1:]):
            moment += second_time(velocities, second_wind(stations, x, y, moment), (u - x, v - y))
            wanted.append(moment)
        answer = self.sail(12347, [number for place in places for number in place], weather_text(stations), velocities)
        self.assertEqual(answer[0], 2)
        self.assertEqual(fractions_in(answer[1:]), wanted)


if __name__ == "__main__":
    unittest.main()
