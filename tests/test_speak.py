import unittest

from tests.helper import HUGE, ask, last, load, observe, printed, speak

TEXT = ("station A 0 0\nstation B 1 0\nstation C 2 0\nstation D 3 0\nwind A 5 1 1\nwind A 10 1 1\nwind B 10 0 0\n"
        "wind D 20 1 1\nwind D 8 1 1\n")


class Speak(unittest.TestCase):
    def test_first_and_last_times(self):
        wanted = {4: [0], 5: [1, 1], 7: [1, 1], 8: [2, 1, 4], 9: [2, 1, 4], 10: [3, 1, 2, 4], 11: [1, 4],
                  20: [1, 4], 21: [0]}
        for t, answer in wanted.items():
            self.assertEqual(last(load(TEXT), speak(t)), answer)

    def test_no_stations(self):
        self.assertEqual(last(speak(0)), [0])

    def test_all_six(self):
        text = "".join(f"station S{k} {k} 0\nwind S{k} 3 0 0\n" for k in range(6))
        self.assertEqual(last(load(text), speak(3)), [6, 1, 2, 3, 4, 5, 6])

    def test_ranges(self):
        text = "station A 0 0\nwind A 0 0 0\nwind A 100000 0 0\n"
        for t in (0, 1, 99999, 100000):
            self.assertEqual(last(load(text), speak(t)), [1, 1])
        for t in (-1, 100001, HUGE, -HUGE):
            self.assertEqual(last(load(text), speak(t)), [-10])

    def test_observing_lets_it_speak(self):
        self.assertEqual(ask(load(TEXT), observe(3, 6, 0, 0), speak(6), observe(3, 4, 0, 0), speak(5))[2::2],
                         [[2, 1, 3], [2, 1, 3]])

    def test_it_changes_nothing(self):
        parts = ask(load(TEXT), printed(), speak(10), speak(10), printed())
        self.assertEqual((parts[1], parts[2]), (parts[4], parts[3]))


if __name__ == "__main__":
    unittest.main()
