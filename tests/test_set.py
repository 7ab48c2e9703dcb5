import unittest

from tests.helper import BEAT, CALM, HUGE, SOUTH, ask, last, load, printed, set_leg, table


class SetLeg(unittest.TestCase):
    def test_the_least_number(self):
        # The way takes 20 seconds.
        for k, times in ((0, 1), (1, 1), (20, 1), (21, 2), (40, 2), (41, 3), (1000000, 50000), (999999, 50000)):
            self.assertEqual(last(load(SOUTH), table(BEAT), set_leg(0, 0, 0, 0, 100, k)), [times])

    def test_a_time_that_is_a_fraction(self):
        # The way takes 7/5 seconds.
        for k, times in ((0, 1), (1, 1), (2, 2), (7, 5), (8, 6), (14, 10), (15, 11)):
            self.assertEqual(last(load(SOUTH), table(BEAT), set_leg(0, 0, 0, 0, 7, k)), [times])

    def test_no_way(self):
        for calls in ([load(SOUTH), table(BEAT)], [load(SOUTH)], [load(CALM), table(BEAT)], [load(CALM)]):
            self.assertEqual(last(*calls, set_leg(0, 0, 0, 0, 0, 0)), [1])
            self.assertEqual(last(*calls, set_leg(0, 0, 0, 0, 0, 1)), [-7])

    def test_never(self):
        for k in (0, 1, 1000000):
            self.assertEqual(last(load(SOUTH), table(BEAT), set_leg(0, 0, 0, 0, -1, k)), [-7])
            self.assertEqual(last(load(SOUTH), set_leg(0, 0, 0, 0, 1, k)), [-7])
            self.assertEqual(last(load(CALM), table(BEAT), set_leg(0, 0, 0, 0, 1, k)), [-7])

    def test_no_wind_comes_before_never(self):
        self.assertEqual(last(set_leg(0, 0, 0, 0, 0, 0)), [-6])
        self.assertEqual(last(load(SOUTH), set_leg(0, 0, 41, 0, 0, 1)), [-6])
        self.assertEqual(last(load(SOUTH), table(BEAT), set_leg(0, 0, 41, 0, -1, 1)), [-6])

    def test_the_wind_there(self):
        text = "station A 0 0\nstation B 100 0\nwind A 0 10 0\nwind A 10 20 0\nwind B 0 30 0\nwind B 10 30 0\n"
        for x, t, times in ((0, 0, 3), (0, 10, 5), (100, 0, 8), (50, 0, 5)):
            self.assertEqual(last(load(text), table([1000, 0]), set_leg(x, 0, t, 60, 0, 15)), [times])

    def test_ranges(self):
        right = [0, 0, 0, 0, 100, 1]
        for place, numbers in ((0, (-100000, 100000)), (1, (-100000, 100000)), (2, (0, 40)), (4, (1, 100000)),
                               (5, (0, 1000000))):
            for number in numbers:
                call = right[:place] + [number] + right[place + 1:]
                self.assertGreater(last(load(SOUTH), table(BEAT), set_leg(*call))[0], 0)
        for dx in (-100000, 100000):
            self.assertEqual(last(load(SOUTH), table(BEAT), set_leg(0, 0, 0, dx, 100000, 20001)), [2])
        for place, numbers in enumerate([(-100001, 100001)] * 2 + [(-1, 100001)] + [(-100001, 100001)] * 2
                                        + [(-1, 1000001)]):
            for number in numbers + (HUGE, -HUGE):
                call = right[:place] + [number] + right[place + 1:]
                self.assertEqual(last(load(SOUTH), table(BEAT), set_leg(*call)), [-10])
                self.assertEqual(last(set_leg(*call)), [-10])

    def test_out_of_range_comes_before_never(self):
        self.assertEqual(last(load(CALM), set_leg(0, 0, 0, 1, 0, -1)), [-10])

    def test_it_changes_nothing(self):
        call = set_leg(0, 0, 3, 1, 100, 77)
        parts = ask(load(SOUTH), table(BEAT), printed(), call, call, printed())
        self.assertEqual((parts[2], parts[3]), (parts[5], parts[4]))


if __name__ == "__main__":
    unittest.main()
