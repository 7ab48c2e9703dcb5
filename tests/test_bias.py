import random
import unittest

from tests.helper import CALM, HUGE, SOUTH, ask, bias, fractions_in, last, load, printed, second_bias, second_wind, told
from tests.helper import weather_text


def in_wind(e, n):
    return load(f"station A 7 -3\nwind A 0 {e} {n}\n")


class Bias(unittest.TestCase):
    def test_winds_along_each_axis(self):
        for wind, code in (((0, -1), 2), ((0, 1), 1), ((1, 0), 1), ((-1, 0), 2)):
            # 3, 4 lies further against a wind to the south or the west; 0, 0 against the others.
            square = "16/1" if wind[0] == 0 else "9/1"
            self.assertEqual(last(in_wind(*wind), bias(0, 0, 3, 4, 0)), [code] + told(square))
            self.assertEqual(last(in_wind(*wind), bias(3, 4, 0, 0, 0)), [3 - code] + told(square))

    def test_a_slanting_wind(self):
        # Along (3, -4), 5 long, 10, 0 lies 6 down the wind of 0, 0, and 0, 10 lies 8 against it.
        self.assertEqual(last(in_wind(3, -4), bias(0, 0, 10, 0, 0)), [1] + told("36/1"))
        self.assertEqual(last(in_wind(3, -4), bias(0, 0, 0, 10, 0)), [2] + told("64/1"))
        self.assertEqual(last(in_wind(3, -4), bias(1, 1, 2, 1, 0)), [1] + told("9/25"))
        self.assertEqual(last(in_wind(1, 1), bias(0, 0, 0, 1, 0)), [1] + told("1/2"))
        self.assertEqual(last(in_wind(-1, 2), bias(5, 5, 4, 5, 0)), [1] + told("1/5"))

    def test_both_as_far(self):
        self.assertEqual(last(in_wind(0, -9), bias(-5, 2, 70, 2, 0)), [0] + told("0/1"))
        self.assertEqual(last(in_wind(3, -4), bias(0, 0, 4, 3, 0)), [0] + told("0/1"))
        self.assertEqual(last(in_wind(3, -4), bias(0, 0, -8, -6, 0)), [0] + told("0/1"))

    def test_the_same_place_twice(self):
        self.assertEqual(last(in_wind(3, -4), bias(6, 7, 6, 7, 0)), [0] + told("0/1"))
        self.assertEqual(last(load(CALM), bias(6, 7, 6, 7, 0)), [-7])
        self.assertEqual(last(load(CALM), bias(6, 7, 6, 7, 11)), [-6])

    def test_how_strong_the_wind_is_makes_no_difference(self):
        for strong in (1, 2, 500):
            self.assertEqual(last(in_wind(strong, -2 * strong), bias(0, 0, 1, 4, 0)), [2] + told("49/5"))

    def test_the_farthest_places(self):
        self.assertEqual(last(in_wind(0, -1), bias(-100000, -100000, 100000, 100000, 0)), [2] + told("40000000000/1"))
        self.assertEqual(last(in_wind(1, 1), bias(-100000, -100000, 100000, 100000, 0)), [1] + told("80000000000/1"))

    def test_it_goes_by_the_wind_at_the_first_place(self):
        text = "station A 0 0\nstation B 10 0\nwind A 0 0 -1\nwind A 10 0 2\nwind B 0 3 0\nwind B 10 3 0\n"
        self.assertEqual(last(load(text), bias(0, 0, 10, 5, 0)), [2] + told("25/1"))
        self.assertEqual(last(load(text), bias(0, 0, 10, 5, 10)), [1] + told("25/1"))
        self.assertEqual(last(load(text), bias(10, 0, 0, 5, 0)), [2] + told("100/1"))
        # At 5, 0 the wind is (3/2, -1/2), and at the time 2 of A alone (0, -2/5).
        self.assertEqual(last(load(text), bias(5, 0, 6, 0, 0)), [1] + told("9/10"))
        self.assertEqual(last(load(text), bias(0, 0, 10, 5, 2)), [2] + told("25/1"))

    def test_by_a_second_way(self):
        source = random.Random(10)
        codes = []
        for turn in range(150):
            stations = [(f"S{k}", k, source.randint(-4, 4),
                         {0: (source.randint(-3, 3), source.randint(-3, 3)), 7: (source.randint(-3, 3), 1)})
                        for k in range(source.randint(1, 4))]
            x, y, u, v = [source.randint(-4, 4) for k in range(4)]
            t = source.randint(0, 7)
            answer = last(load(weather_text(stations)), bias(x, y, u, v, t))
            there = second_wind(stations, x, y, t)
            if there == (0, 0):
                self.assertEqual(answer, [-7])
                continue
            code, square = second_bias(there, (x, y), (u, v))
            codes.append(code)
            self.assertEqual([answer[0]] + fractions_in(answer[1:]), [code, square])
        self.assertEqual(set(codes), {0, 1, 2})

    def test_refusals(self):
        self.assertEqual(last(bias(0, 0, 1, 1, 0)), [-6])
        self.assertEqual(last(load(SOUTH), bias(0, 0, 1, 1, 41)), [-6])
        self.assertEqual(last(load(CALM), bias(0, 0, 1, 1, 0)), [-7])
        self.assertEqual(last(load(CALM), bias(50, 0, 1, 1, 10)), [-7])

    def test_ranges(self):
        right = [0, 0, 3, 4, 0]
        for place in range(4):
            for number in (-100000, 100000):
                call = right[:place] + [number] + right[place + 1:]
                self.assertIn(last(load(SOUTH), bias(*call))[0], (1, 2))
        self.assertEqual(last(load(SOUTH), bias(0, 0, 3, 4, 40)), [2] + told("16/1"))
        late = "station A 0 0\nwind A 100000 0 -10\n"
        self.assertEqual(last(load(late), bias(0, 0, 3, 4, 100000)), [2] + told("16/1"))
        for place, numbers in enumerate([(-100001, 100001)] * 4 + [(-1, 100001)]):
            for number in numbers + (HUGE, -HUGE):
                call = right[:place] + [number] + right[place + 1:]
                for text in (SOUTH, CALM, ""):
                    self.assertEqual(last(load(text), bias(*call)), [-10])

    def test_it_changes_nothing(self):
        for call in (bias(0, 0, 1, 7, 9), bias(0, 0, 1, 7, 41), bias(0, 0, 1, 7, -1)):
            parts = ask(load(SOUTH), printed(), call, call, printed())
            self.assertEqual((parts[1], parts[2]), (parts[4], parts[3]))


if __name__ == "__main__":
    unittest.main()
