import random
import unittest

from tests.helper import CALM, HUGE, SOUTH, ask, fractions_in, last, load, printed, second_shift, second_wind, shift, told
from tests.helper import weather_text


def in_winds(first, second):
    """The first wind at the time 0, the second at the time 1."""
    return load(weather_text([("A", 7, -3, {0: first, 1: second})]))


class Shift(unittest.TestCase):
    def test_left_and_right_along(self):
        self.assertEqual(last(in_winds((1, 0), (1, 1)), shift(0, 0, 0, 1)), [1, 1] + told("1/2"))
        self.assertEqual(last(in_winds((1, 0), (1, -1)), shift(0, 0, 0, 1)), [2, 1] + told("1/2"))
        self.assertEqual(last(in_winds((0, -5), (3, -4)), shift(0, 0, 0, 1)), [1, 1] + told("9/25"))
        self.assertEqual(last(in_winds((0, -5), (-3, -4)), shift(0, 0, 0, 1)), [2, 1] + told("9/25"))

    def test_left_and_right_against(self):
        self.assertEqual(last(in_winds((1, 0), (-1, 1)), shift(0, 0, 0, 1)), [1, 2] + told("1/2"))
        self.assertEqual(last(in_winds((1, 0), (-1, -1)), shift(0, 0, 0, 1)), [2, 2] + told("1/2"))
        self.assertEqual(last(in_winds((0, -5), (4, 3)), shift(0, 0, 0, 1)), [1, 2] + told("16/25"))

    def test_square_to_one_another(self):
        self.assertEqual(last(in_winds((3, 0), (0, 4)), shift(0, 0, 0, 1)), [1, 0] + told("1/1"))
        self.assertEqual(last(in_winds((3, 0), (0, -4)), shift(0, 0, 0, 1)), [2, 0] + told("1/1"))
        self.assertEqual(last(in_winds((2, -3), (6, 4)), shift(0, 0, 0, 1)), [1, 0] + told("1/1"))

    def test_one_direction(self):
        self.assertEqual(last(in_winds((2, -3), (4, -6)), shift(0, 0, 0, 1)), [0, 1] + told("0/1"))
        self.assertEqual(last(in_winds((2, -3), (-4, 6)), shift(0, 0, 0, 1)), [0, 2] + told("0/1"))

    def test_the_same_wind(self):
        self.assertEqual(last(in_winds((2, -3), (2, -3)), shift(0, 0, 0, 1)), [0, 1] + told("0/1"))
        self.assertEqual(last(in_winds((2, -3), (9, 9)), shift(0, 0, 0, 0)), [0, 1] + told("0/1"))

    def test_the_later_time_first(self):
        self.assertEqual(last(in_winds((1, 0), (1, 1)), shift(0, 0, 1, 0)), [2, 1] + told("1/2"))

    def test_a_small_turn_of_strong_winds(self):
        # 1000 * 998 - 999 * 999 is -1; the squares are 1998001 and 1994005.
        self.assertEqual(last(in_winds((1000, 999), (999, 998)), shift(0, 0, 0, 1)),
                         [2, 1] + told("1/3984023984005"))

    def test_the_wind_at_the_place_and_both_times(self):
        text = weather_text([("A", 0, 0, {0: (1, 0), 10: (0, 1)}), ("B", 10, 0, {0: (0, -3), 10: (-3, 0)})])
        self.assertEqual(last(load(text), shift(0, 0, 0, 10)), [1, 0] + told("1/1"))
        self.assertEqual(last(load(text), shift(10, 0, 0, 10)), [2, 0] + told("1/1"))
        # Halfway: (1/2, -3/2), then (-3/2, 1/2).
        self.assertEqual(last(load(text), shift(5, 0, 0, 10)), [2, 2] + told("16/25"))
        # At A and the time 2: (4/5, 1/5).
        self.assertEqual(last(load(text), shift(0, 0, 0, 2)), [1, 1] + told("1/17"))

    def test_by_a_second_way(self):
        source = random.Random(11)
        seen_codes = set()
        for turn in range(200):
            stations = [(f"S{k}", 2 * k, source.randint(-2, 2),
                         {t: (source.randint(-3, 3), source.randint(-3, 3)) for t in (0, source.randint(1, 4), 5)})
                        for k in range(source.randint(1, 3))]
            x, y, t, s = source.randint(-3, 5), source.randint(-3, 3), source.randint(0, 5), source.randint(0, 5)
            answer = last(load(weather_text(stations)), shift(x, y, t, s))
            winds = [second_wind(stations, x, y, moment) for moment in (t, s)]
            if (0, 0) in winds:
                self.assertEqual(answer, [-7])
                continue
            codes, square = second_shift(*winds)
            seen_codes.add(tuple(codes))
            self.assertEqual(answer[:2] + fractions_in(answer[2:]), codes + [square])
        self.assertEqual(len(seen_codes), 8)

    def test_no_wind_of_either(self):
        self.assertEqual(last(shift(0, 0, 0, 1)), [-6])
        self.assertEqual(last(load(SOUTH), shift(0, 0, 0, 41)), [-6])
        self.assertEqual(last(load(SOUTH), shift(0, 0, 41, 0)), [-6])
        self.assertEqual(last(load(SOUTH), shift(0, 0, 41, 42)), [-6])

    def test_a_wind_of_0_of_either(self):
        text = "station A 0 0\nwind A 0 0 0\nwind A 1 1 1\n"
        self.assertEqual(last(load(text), shift(0, 0, 0, 1)), [-7])
        self.assertEqual(last(load(text), shift(0, 0, 1, 0)), [-7])
        self.assertEqual(last(load(text), shift(0, 0, 0, 0)), [-7])
        self.assertEqual(last(load(text), shift(0, 0, 1, 1)), [0, 1] + told("0/1"))

    def test_no_wind_comes_before_a_wind_of_0(self):
        self.assertEqual(last(load(CALM), shift(0, 0, 0, 11)), [-6])
        self.assertEqual(last(load(CALM), shift(0, 0, 11, 0)), [-6])

    def test_ranges(self):
        right = [0, 0, 0, 40]
        for place, numbers in ((0, (-100000, 100000)), (1, (-100000, 100000)), (2, (0, 40)), (3, (0, 40))):
            for number in numbers:
                call = right[:place] + [number] + right[place + 1:]
                self.assertEqual(last(load(SOUTH), shift(*call)), [0, 1] + told("0/1"))
        whole_day = "station A 0 0\nwind A 0 0 -10\nwind A 100000 10 0\n"
        self.assertEqual(last(load(whole_day), shift(0, 0, 0, 100000)), [1, 0] + told("1/1"))
        self.assertEqual(last(load(whole_day), shift(0, 0, 100000, 0)), [2, 0] + told("1/1"))
        for place, numbers in enumerate([(-100001, 100001)] * 2 + [(-1, 100001)] * 2):
            for number in numbers + (HUGE, -HUGE):
                call = right[:place] + [number] + right[place + 1:]
                for text in (SOUTH, CALM, ""):
                    self.assertEqual(last(load(text), shift(*call)), [-10])

    def test_it_changes_nothing(self):
        for call in (shift(0, 0, 3, 9), shift(0, 0, 3, 41), shift(0, 0, 3, -1)):
            parts = ask(load(SOUTH), printed(), call, call, printed())
            self.assertEqual((parts[1], parts[2]), (parts[4], parts[3]))


if __name__ == "__main__":
    unittest.main()
