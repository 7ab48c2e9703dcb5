import unittest

from tests.helper import BEAT, HUGE, SOUTH, ask, last, load, table, time, told


class Table(unittest.TestCase):
    def test_how_many(self):
        for count in range(1, 13):
            self.assertEqual(last(table([1, 2] * count)), [count])

    def test_none_and_too_many(self):
        self.assertEqual(last(table([])), [-9])
        self.assertEqual(last(table([0, 0] * 13)), [-9])
        self.assertEqual(last(table([0] * 40)), [-9])

    def test_odd_lists(self):
        for size in (1, 3, 23, 25, 39):
            self.assertEqual(last(table([1] * size)), [-9])

    def test_ranges(self):
        self.assertEqual(last(table([-3000, 3000, 3000, -3000])), [2])
        for velocities in ([3001, 0], [-3001, 0], [0, 3001], [0, -3001], [0, 0, 0, HUGE], [-HUGE, 0, 0, 0]):
            self.assertEqual(last(table(velocities)), [-9])

    def test_a_table_takes_the_place_of_the_one_before(self):
        calls = [load(SOUTH), table(BEAT), table([1000, 0])]
        self.assertEqual(last(*calls, time(0, 0, 0, 0, -100)), told("10/1"))
        self.assertEqual(last(*calls, time(0, 0, 0, 0, 100)), [-7])

    def test_a_refusal_changes_nothing(self):
        for velocities in ([], [1], [1000, 0] * 13, [1000, 0, 1000], [3001, 0]):
            parts = ask(load(SOUTH), table(BEAT), table(velocities), time(0, 0, 0, 0, 100))
            self.assertEqual(parts[2:], [[-9], told("20/1")])
            self.assertEqual(last(load(SOUTH), table(velocities), time(0, 0, 0, 0, -1)), [-7])

    def test_the_twelfth_velocity_counts(self):
        self.assertEqual(last(load(SOUTH), table([0, 0] * 11 + [1000, 0]), time(0, 0, 0, 0, -100)), told("10/1"))
        self.assertEqual(last(load(SOUTH), table([-500, 500] + [0, 0] * 10 + [-500, -500]), time(0, 0, 0, 0, 100)),
                         told("20/1"))


if __name__ == "__main__":
    unittest.main()
