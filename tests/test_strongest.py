import random
import unittest

from tests.helper import CALM, HUGE, SOUTH, ask, dot, fractions_in, last, load, observe, printed, second_station_wind
from tests.helper import strongest, told, weather_text


class Strongest(unittest.TestCase):
    def test_the_strongest_of_several(self):
        winds = [(3, 4), (-6, 1), (0, -5), (2, 2)]
        for turn in range(4):
            order = winds[turn:] + winds[:turn]
            text = weather_text([(f"S{k}", k, 0, {0: wind}) for k, wind in enumerate(order)])
            self.assertEqual(last(load(text), strongest(0)), [order.index((-6, 1)) + 1] + told("37/1"))

    def test_one_station(self):
        self.assertEqual(last(load(SOUTH), strongest(0)), [1] + told("100/1"))
        self.assertEqual(last(load(SOUTH), strongest(40)), [1] + told("400/1"))

    def test_two_alike(self):
        text = weather_text([("A", 0, 0, {0: (1, 1)}), ("B", 1, 0, {0: (3, -4)}), ("C", 2, 0, {0: (-5, 0)}),
                             ("D", 3, 0, {0: (0, 5)})])
        self.assertEqual(last(load(text), strongest(0)), [2] + told("25/1"))

    def test_a_wind_of_0_alone(self):
        self.assertEqual(last(load(CALM), strongest(5)), [1] + told("0/1"))
        text = weather_text([("A", 0, 0, {}), ("B", 1, 0, {0: (0, 0)}), ("C", 2, 0, {0: (0, 0)})])
        self.assertEqual(last(load(text), strongest(0)), [2] + told("0/1"))

    def test_stations_that_do_not_speak(self):
        text = weather_text([("A", 0, 0, {0: (9, 9), 4: (9, 9)}), ("B", 1, 0, {5: (1, 0), 9: (7, 0)}), ("C", 2, 0, {}),
                             ("D", 3, 0, {4: (0, 2), 6: (0, 2)})])
        for t, answer in ((4, [1] + told("162/1")), (5, [4] + told("4/1")), (6, [2] + told("25/4")),
                          (9, [2] + told("49/1")), (10, [-6])):
            self.assertEqual(last(load(text), strongest(t)), answer)

    def test_between_times_seen(self):
        # (1, 2) at 0 and (2, -2) at 3: at 1 it is (4/3, 2/3).
        text = weather_text([("A", 0, 0, {0: (1, 2), 3: (2, -2)}), ("B", 4, 0, {0: (1, 1), 3: (1, 1)})])
        self.assertEqual(last(load(text), strongest(1)), [1] + told("20/9"))
        self.assertEqual(last(load(text), strongest(2)), [1] + told("29/9"))
        text = weather_text([("A", 0, 0, {0: (1, 2), 3: (2, -2)}), ("B", 4, 0, {0: (1, 1), 3: (2, 1)})])
        self.assertEqual(last(load(text), strongest(1)), [2] + told("25/9"))

    def test_strengths_that_are_nearly_alike(self):
        text = weather_text([("A", 0, 0, {0: (1000, 0)}), ("B", 1, 0, {0: (1000, 0), 100000: (1000, 1)})])
        self.assertEqual(last(load(text), strongest(0)), [1] + told("1000000/1"))
        self.assertEqual(last(load(text), observe(1, 1, 1000, 0), strongest(1)),
                         [2] + told("10000000000000001/10000000000"))

    def test_by_a_second_way(self):
        source = random.Random(13)
        silent = 0
        for turn in range(150):
            stations = [(f"S{k}", k, 0, {source.randint(0, 6): (source.randint(-3, 3), source.randint(-3, 3))
                                         for sight in range(source.randint(0, 4))})
                        for k in range(source.randint(0, 6))]
            t = source.randint(0, 6)
            heard = [(k + 1, second_station_wind(seen, t)) for k, (name, x, y, seen) in enumerate(stations)]
            squares = [(-dot(wind, wind), number) for number, wind in heard if wind is not None]
            answer = last(load(weather_text(stations)), strongest(t))
            if squares:
                square, number = min(squares)
                self.assertEqual([answer[0]] + fractions_in(answer[1:]), [number, -square])
            else:
                silent += 1
                self.assertEqual(answer, [-6])
        self.assertGreater(silent, 5)

    def test_refusals(self):
        self.assertEqual(last(strongest(0)), [-6])
        self.assertEqual(last(load("station A 0 0\n"), strongest(0)), [-6])
        self.assertEqual(last(load(SOUTH), strongest(41)), [-6])
        for t in (-1, 100001, HUGE, -HUGE):
            self.assertEqual(last(load(SOUTH), strongest(t)), [-10])
            self.assertEqual(last(strongest(t)), [-10])
        self.assertEqual(last(load("station A 0 0\nwind A 100000 1 2\n"), strongest(100000)), [1] + told("5/1"))

    def test_it_changes_nothing(self):
        for call in (strongest(7), strongest(41), strongest(-1)):
            parts = ask(load(SOUTH), printed(), call, call, printed())
            self.assertEqual((parts[1], parts[2]), (parts[4], parts[3]))


if __name__ == "__main__":
    unittest.main()
