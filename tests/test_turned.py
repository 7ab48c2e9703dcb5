import random
import unittest

from tests.helper import CALM, HUGE, SOUTH, ask, last, load, printed, second_turned, second_wind, turned, weather_text


def in_winds(first, second):
    """The first wind at the time 0, the second at the time 1."""
    return load(weather_text([("A", 7, -3, {0: first, 1: second})]))


class Turned(unittest.TestCase):
    def test_equal_is_not_greater(self):
        # The tangent between both is 3/4, to either side.
        for side in (1, -1):
            for p, q, answer in ((3, 4, 0), (6, 8, 0), (750, 1000, 0), (749, 999, 1), (750, 999, 0), (749, 1000, 1),
                                 (751, 1000, 0), (2, 3, 1), (4, 5, 0), (0, 1, 1)):
                self.assertEqual(last(in_winds((5, 0), (4, 3 * side)), turned(0, 0, 0, 1, p, q)), [answer])
                self.assertEqual(last(in_winds((5, 0), (4, 3 * side)), turned(0, 0, 1, 0, p, q)), [answer])

    def test_half_a_right_angle(self):
        for p, q, answer in ((1, 1, 0), (1000, 1000, 0), (999, 1000, 1), (1000, 999, 0)):
            self.assertEqual(last(in_winds((0, -7), (2, -2)), turned(0, 0, 0, 1, p, q)), [answer])

    def test_a_little_greater_and_a_little_less(self):
        # The tangent of the angle to the east is 500/1000, then 501/1000, then 499/1000.
        for north, answer in ((500, 0), (501, 1), (499, 0)):
            self.assertEqual(last(in_winds((9, 0), (1000, north)), turned(0, 0, 0, 1, 1, 2)), [answer])

    def test_p_of_0(self):
        for q in (1, 1000):
            self.assertEqual(last(in_winds((3, 4), (6, 8)), turned(0, 0, 0, 1, 0, q)), [0])
            self.assertEqual(last(in_winds((1000, 999), (999, 998)), turned(0, 0, 0, 1, 0, q)), [1])
            self.assertEqual(last(in_winds((3, 4), (-6, -8)), turned(0, 0, 0, 1, 0, q)), [1])
            self.assertEqual(last(in_winds((3, 4), (9, 9)), turned(0, 0, 0, 0, 0, q)), [0])

    def test_a_right_angle_and_more(self):
        for second in ((-4, 3), (4, -3), (-5, 3), (3, -9), (-3, -5), (-4, -2), (-3, -4)):
            for p, q in ((0, 1), (1, 1), (1000, 1)):
                self.assertEqual(last(in_winds((3, 4), second), turned(0, 0, 0, 1, p, q)), [1])

    def test_the_steepest(self):
        for north, answer in ((1000, 0), (999, 0)):
            self.assertEqual(last(in_winds((1, 0), (1, north)), turned(0, 0, 0, 1, 1000, 1)), [answer])
        # (1, 1000) and (1, -1) are more than a right angle apart; (1, 1000) and (999, 0) have the tangent 1000.
        self.assertEqual(last(in_winds((1, 1000), (1, -1)), turned(0, 0, 0, 1, 1000, 1)), [1])
        self.assertEqual(last(in_winds((1, 1000), (999, 0)), turned(0, 0, 0, 1, 1000, 1)), [0])
        # At the time 3 the wind is (999, -1/2): the tangent is 999000 and a half over 499, above 1000.
        text = weather_text([("A", 0, 0, {0: (1, 1000), 2: (999, -1), 4: (999, 0)})])
        self.assertEqual(last(load(text), turned(0, 0, 0, 3, 1000, 1)), [1])

    def test_the_wind_at_the_place_and_both_times(self):
        text = weather_text([("A", 0, 0, {0: (1, 0), 10: (0, 1)}), ("B", 10, 0, {0: (2, 0), 10: (2, 0)})])
        # At A and the time 2: (4/5, 1/5). Halfway at 10: (1, 1/2).
        for x, s, p, q, answer in ((0, 2, 1, 4, 0), (0, 2, 1, 5, 1), (0, 3, 1, 4, 1), (5, 10, 1, 2, 0),
                                   (5, 10, 49, 100, 1), (10, 10, 0, 1, 0)):
            self.assertEqual(last(load(text), turned(x, 0, 0, s, p, q)), [answer])

    def test_by_a_second_way(self):
        source = random.Random(12)
        told = []
        for turn in range(300):
            stations = [(f"S{k}", 2 * k, source.randint(-2, 2),
                         {t: (source.randint(-3, 5), source.randint(-3, 3)) for t in (0, source.randint(1, 4), 5)})
                        for k in range(source.randint(1, 3))]
            x, y, t, s = source.randint(-3, 5), source.randint(-3, 3), source.randint(0, 5), source.randint(0, 5)
            p, q = source.randint(0, 4), source.randint(1, 4)
            answer = last(load(weather_text(stations)), turned(x, y, t, s, p, q))
            winds = [second_wind(stations, x, y, moment) for moment in (t, s)]
            if (0, 0) in winds:
                self.assertEqual(answer, [-7])
                continue
            told.append(answer[0])
            self.assertEqual(answer, [1 if second_turned(*winds, p, q) else 0])
        self.assertGreater(min(told.count(0), told.count(1)), 50)

    def test_no_wind_of_either(self):
        self.assertEqual(last(turned(0, 0, 0, 1, 1, 1)), [-6])
        for t, s in ((0, 41), (41, 0), (41, 42)):
            self.assertEqual(last(load(SOUTH), turned(0, 0, t, s, 1, 1)), [-6])

    def test_a_wind_of_0_of_either(self):
        text = "station A 0 0\nwind A 0 0 0\nwind A 1 1 1\n"
        for t, s, answer in ((0, 1, -7), (1, 0, -7), (0, 0, -7), (1, 1, 0)):
            self.assertEqual(last(load(text), turned(0, 0, t, s, 0, 1)), [answer])

    def test_no_wind_comes_before_a_wind_of_0(self):
        self.assertEqual(last(load(CALM), turned(0, 0, 0, 11, 1, 1)), [-6])
        self.assertEqual(last(load(CALM), turned(0, 0, 11, 0, 1, 1)), [-6])

    def test_ranges(self):
        right = [0, 0, 0, 40, 1, 1]
        for place, numbers in ((0, (-100000, 100000)), (1, (-100000, 100000)), (2, (0, 40)), (3, (0, 40)),
                               (4, (0, 1000)), (5, (1, 1000))):
            for number in numbers:
                call = right[:place] + [number] + right[place + 1:]
                self.assertEqual(last(load(SOUTH), turned(*call)), [0])
        whole_day = "station A 0 0\nwind A 0 0 -10\nwind A 100000 10 0\n"
        self.assertEqual(last(load(whole_day), turned(0, 0, 0, 100000, 1, 1)), [1])
        self.assertEqual(last(load(whole_day), turned(0, 0, 100000, 0, 1, 1)), [1])
        for place, numbers in enumerate([(-100001, 100001)] * 2 + [(-1, 100001)] * 2 + [(-1, 1001), (0, -1, 1001)]):
            for number in numbers + (HUGE, -HUGE):
                call = right[:place] + [number] + right[place + 1:]
                for text in (SOUTH, CALM, ""):
                    self.assertEqual(last(load(text), turned(*call)), [-10])

    def test_it_changes_nothing(self):
        for call in (turned(0, 0, 3, 9, 0, 1), turned(0, 0, 3, 41, 0, 1), turned(0, 0, 3, 9, 0, 0)):
            parts = ask(load(SOUTH), printed(), call, call, printed())
            self.assertEqual((parts[1], parts[2]), (parts[4], parts[3]))


if __name__ == "__main__":
    unittest.main()
