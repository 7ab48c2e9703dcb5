import random
import unittest

from tests.helper import BEAT, CALM, HUGE, SOUTH, ask, between, last, load, printed, second_time, table, time, weather_text


class Between(unittest.TestCase):
    def test_less_more_and_as_much(self):
        for ours, this, answer in (([900, 0], [800, 0], 1), ([800, 0], [900, 0], 2), ([800, 0], [800, 0], 0)):
            self.assertEqual(last(load(SOUTH), table(ours), between(0, 0, 0, 0, -70, this)), [answer])

    def test_as_much_by_other_velocities(self):
        # Beating north takes as long as 500 straight against the wind.
        for this, answer in (([-500, 0], 0), ([-501, 0], 2), ([-499, 0], 1), ([-500, 1, -500, -3], 0)):
            self.assertEqual(last(load(SOUTH), table(BEAT), between(0, 0, 0, 0, 70, this)), [answer])

    def test_never(self):
        # BEAT never goes south, and [1000, 0] never north.
        self.assertEqual(last(load(SOUTH), table(BEAT), between(0, 0, 0, 0, 70, [1000, 0])), [1])
        self.assertEqual(last(load(SOUTH), table([1000, 0]), between(0, 0, 0, 0, 70, BEAT)), [2])
        self.assertEqual(last(load(SOUTH), table([1000, 0]), between(0, 0, 0, 70, 0, BEAT)), [0])
        self.assertEqual(last(load(SOUTH), table([0, 0]), between(0, 0, 0, 1, 0, [0, 0, 0, 0])), [0])

    def test_no_table(self):
        self.assertEqual(last(load(SOUTH), between(0, 0, 0, 0, 70, BEAT)), [2])
        self.assertEqual(last(load(SOUTH), between(0, 0, 0, 0, -70, BEAT)), [0])
        self.assertEqual(last(load(SOUTH), between(0, 0, 0, 0, 0, BEAT)), [0])

    def test_no_way(self):
        for text in (SOUTH, CALM):
            self.assertEqual(last(load(text), table(BEAT), between(0, 0, 0, 0, 0, [1000, 0])), [0])
            self.assertEqual(last(load(text), between(0, 0, 0, 0, 0, [1000, 0])), [0])

    def test_a_wind_of_0(self):
        for way in ((1, 0), (0, -1), (0, 0)):
            self.assertEqual(last(load(CALM), table(BEAT), between(0, 0, 0, *way, [1000, 0])), [0])
            self.assertEqual(last(load(CALM), between(0, 0, 0, *way, [1000, 0])), [0])

    def test_the_wind_there(self):
        # To the east at A, to the north at B and the time 10; the tables go along and square to it.
        text = weather_text([("A", 0, 0, {0: (10, 0), 10: (10, 0)}), ("B", 9, 0, {0: (10, 0), 10: (0, 10)})])
        for x, t, way, answer in ((0, 0, (5, 0), 1), (0, 0, (0, 5), 2), (9, 0, (5, 0), 1), (9, 10, (0, 5), 1),
                                  (9, 10, (-5, 0), 2), (9, 10, (5, 0), 0)):
            self.assertEqual(last(load(text), table([1000, 0]), between(x, 0, t, *way, [0, 1000])), [answer])

    def test_by_a_second_way(self):
        source = random.Random(15)
        codes = []
        for turn in range(200):
            e, n = source.randint(-2, 2), source.randint(-2, 2)
            tables = [[source.randint(-2, 2) for k in range(2 * source.randint(1, 4))] for which in (0, 1)]
            way = source.randint(-2, 2), source.randint(-2, 2)
            answer = last(load(f"station A 0 0\nwind A 0 {e} {n}\n"), table(tables[0]), between(0, 0, 0, *way, tables[1]))
            times = [second_time(velocities, (e, n), way) for velocities in tables]
            first, second = [(1, 0) if lasts is None else (0, lasts) for lasts in times]
            codes.append(answer[0])
            self.assertEqual(answer, [0 if first == second else 1 if first < second else 2])
        self.assertGreater(min(codes.count(code) for code in (0, 1, 2)), 20)

    def test_lists_that_are_no_table(self):
        for row in ([], [1], [1, 2, 3], [1, 2] * 12 + [1], [1, 2] * 13, [1, 2] * 20, [3001, 0], [0, -3001],
                    [1000, 0, HUGE, 0], [-HUGE, 0]):
            self.assertEqual(last(load(SOUTH), table(BEAT), between(0, 0, 0, 0, 70, row)), [-9])
            self.assertEqual(last(load(SOUTH), between(0, 0, 0, 0, 0, row)), [-9])
        for row in ([1, 2], [1, 2] * 12, [3000, -3000], [-3000, 3000]):
            self.assertEqual(last(load(SOUTH), table(BEAT), between(0, 0, 0, 0, 70, row)), [1])

    def test_no_wind(self):
        for way in ((0, 0), (0, 70)):
            self.assertEqual(last(between(0, 0, 0, *way, BEAT)), [-6])
            self.assertEqual(last(load(SOUTH), table(BEAT), between(0, 0, 41, *way, BEAT)), [-6])

    def test_which_refusal_comes_first(self):
        self.assertEqual(last(between(0, 0, -1, 0, 0, [1])), [-10])
        self.assertEqual(last(between(0, 0, -1, 0, 0, BEAT)), [-10])
        self.assertEqual(last(between(0, 0, 0, 0, 0, [1])), [-9])
        self.assertEqual(last(load(SOUTH), between(0, 0, 41, 0, 70, [3001, 0])), [-9])
        self.assertEqual(last(load(CALM), between(0, 0, 0, 100001, 0, [1])), [-10])

    def test_ranges(self):
        right = [0, 0, 0, 0, 70]
        for place, numbers in ((0, (-100000, 100000)), (1, (-100000, 100000)), (2, (0, 40)), (4, (1, 100000))):
            for number in numbers:
                call = right[:place] + [number] + right[place + 1:]
                self.assertEqual(last(load(SOUTH), table(BEAT), between(*call, [-400, 0])), [1])
        for dx in (-100000, 100000):
            self.assertEqual(last(load(SOUTH), table(BEAT), between(0, 0, 0, dx, 100000, [-400, 0])), [1])
        self.assertEqual(last(load(SOUTH), table([1000, 0]), between(0, 0, 0, 0, -100000, BEAT)), [1])
        late = "station A 0 0\nwind A 100000 0 -10\n"
        self.assertEqual(last(load(late), table(BEAT), between(0, 0, 100000, 0, 70, [-400, 0])), [1])
        for place in range(5):
            for number in (100001, HUGE, -HUGE, -1 if place == 2 else -100001):
                call = right[:place] + [number] + right[place + 1:]
                self.assertEqual(last(load(SOUTH), table(BEAT), between(*call, BEAT)), [-10])
                self.assertEqual(last(between(*call, [])), [-10])

    def test_the_table_that_there_is_stays(self):
        for call in (between(0, 0, 5, 3, 9, [3000, 0]), between(0, 0, 5, 3, 9, [1]), between(0, 0, 41, 3, 9, [3000, 0])):
            parts = ask(load(SOUTH), table(BEAT), printed(), time(0, 0, 5, 3, 9), call, call, printed(),
                        time(0, 0, 5, 3, 9))
            self.assertEqual((parts[2], parts[3], parts[4]), (parts[6], parts[7], parts[5]))
        self.assertEqual(last(load(SOUTH), between(0, 0, 0, 0, -9, [1000, 0]), time(0, 0, 0, 0, -9)), [-7])


if __name__ == "__main__":
    unittest.main()
