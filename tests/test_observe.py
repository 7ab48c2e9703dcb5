import unittest

from tests.helper import HUGE, ask, last, load, observe, printed, speak, told, wind

TWO = "station A 0 0\nstation B 9 9\n"
FULL = "station A 0 0\nstation B 9 9\n" + "".join(f"wind A {t} 0 0\n" for t in range(20))


class Observe(unittest.TestCase):
    def test_how_many_winds_it_saw_then(self):
        parts = ask(load(TWO), observe(1, 5, 1, 2), observe(1, 3, 3, 4), observe(2, 5, 5, 6), observe(1, 4, 0, 0))
        self.assertEqual(parts[1:], [[1], [2], [1], [3]])

    def test_it_saw_this_too(self):
        calls = [load("station A 0 0\nwind A 10 10 20\n"), observe(1, 0, 0, 0)]
        self.assertEqual(last(*calls, wind(0, 0, 5)), told("5/1", "10/1"))
        self.assertEqual(last(*calls, observe(1, 5, 7, -7), wind(0, 0, 5)), told("7/1", "-7/1"))

    def test_no_such_station(self):
        for i in (0, 3, -1, HUGE, -HUGE):
            self.assertEqual(last(load(TWO), observe(i, 0, 0, 0)), [-2])
        self.assertEqual(last(observe(1, 0, 0, 0)), [-2])
        self.assertEqual(last(load(TWO), observe(2, 0, 0, 0)), [1])

    def test_ranges(self):
        for t, e, n in ((0, 0, 0), (100000, 0, 0), (1, -1000, 0), (1, 1000, 0), (1, 0, -1000), (1, 0, 1000)):
            self.assertEqual(last(load(TWO), observe(1, t, e, n)), [1])
        for t, e, n in ((-1, 0, 0), (100001, 0, 0), (1, -1001, 0), (1, 1001, 0), (1, 0, -1001), (1, 0, 1001),
                        (HUGE, 0, 0), (0, -HUGE, 0), (0, 0, HUGE)):
            self.assertEqual(last(load(TWO), observe(1, t, e, n)), [-10])

    def test_a_wind_at_that_time(self):
        self.assertEqual(last(load(TWO + "wind A 7 1 1\n"), observe(1, 7, 2, 2)), [-5])
        self.assertEqual(last(load(TWO), observe(1, 7, 1, 1), observe(1, 7, 1, 1)), [-5])
        self.assertEqual(last(load(TWO + "wind A 7 1 1\n"), observe(2, 7, 2, 2)), [1])

    def test_no_room(self):
        self.assertEqual(last(load(FULL), observe(1, 20, 0, 0)), [-4])
        nineteen = FULL.replace("wind A 19 0 0\n", "")
        self.assertEqual(ask(load(nineteen), observe(1, 19, 0, 0), observe(1, 20, 0, 0), observe(2, 0, 0, 0))[1:],
                         [[20], [-4], [1]])

    def test_the_order_of_refusals(self):
        self.assertEqual(last(load(TWO), observe(3, -1, 5000, 0)), [-2])
        self.assertEqual(last(load(FULL), observe(1, 5, 1001, 0)), [-10])
        self.assertEqual(last(load(FULL), observe(1, 20, 0, 1001)), [-10])
        self.assertEqual(last(load(FULL), observe(1, 5, 0, 0)), [-5])

    def test_a_refusal_changes_nothing(self):
        for call in (observe(3, 0, 0, 0), observe(1, 50, 1001, 0), observe(1, 5, 9, 9), observe(1, 50, 0, 0)):
            parts = ask(load(FULL), printed(), call, printed(), speak(50))
            self.assertLess(parts[2][0], 0)
            self.assertEqual(parts[1], parts[3])
            self.assertEqual(parts[4], [0])


if __name__ == "__main__":
    unittest.main()
