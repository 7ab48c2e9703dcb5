"""The promises 1 to 4, at inputs of a fixed row of numbers, by a second way of reckoning."""

import random
import unittest

from tests.helper import ask, can_be_gone, course, fractions_in, last, load, observe, printed, second_time, second_wind
from tests.helper import second_station_wind, set_leg, speak, table, time, told, weather_text, wind

DIRECTIONS = [(1, 0), (0, 1), (-1, 0), (0, -1), (1, 1), (-1, 1), (3, -2), (-5, -7), (1, 1000)]


def some_stations(source, far, strong):
    places = [(source.randint(-far, far), source.randint(-far, far)) for k in range(source.randint(1, 6))]
    stations = []
    for k, (x, y) in enumerate(dict.fromkeys(places)):
        seen = {source.randint(0, 12): (source.randint(-strong, strong), source.randint(-strong, strong))
                for sight in range(source.randint(0, 5))}
        stations.append((f"S{k}", x, y, seen))
    return stations


def some_table(source, fast):
    return [source.randint(-fast, fast) for k in range(2 * source.randint(1, 12))]


class Promises(unittest.TestCase):
    def test_1_the_wind_lies_between_those_that_speak(self):
        source = random.Random(1)
        heard = 0
        for turn in range(200):
            stations = some_stations(source, 20, 1000)
            x, y, t = source.randint(-20, 20), source.randint(-20, 20), source.randint(0, 12)
            answer = last(load(weather_text(stations)), wind(x, y, t))
            winds = [second_station_wind(seen, t) for name, sx, sy, seen in stations]
            winds = [found for found in winds if found is not None]
            if not winds:
                self.assertEqual(answer, [-6])
                continue
            heard += 1
            there = fractions_in(answer)
            self.assertEqual(tuple(there), second_wind(stations, x, y, t))
            for u, v in DIRECTIONS:
                furthest = max(u * e + v * n for e, n in winds)
                self.assertLessEqual(u * there[0] + v * there[1], furthest)
        self.assertGreater(heard, 100)

    def test_2_no_less_time_than_told_and_it_can_be_gone(self):
        source = random.Random(2)
        sailed = never = 0
        for turn in range(400):
            stations = some_stations(source, 9, 5)
            fast = source.choice((2, 3, 3000))
            velocities = some_table(source, fast)[:source.choice((2, 4, 6, 24))]
            x, y, t = source.randint(-9, 9), source.randint(-9, 9), source.randint(0, 12)
            way = source.randint(-3, 3), source.randint(-3, 3)
            answer = last(load(weather_text(stations)), table(velocities), time(x, y, t, *way))
            there = second_wind(stations, x, y, t)
            if there is None:
                self.assertEqual(answer, [-6])
                continue
            wanted = second_time(velocities, there, way)
            if wanted is None:
                never += 1
                self.assertEqual(answer, [-7])
                continue
            sailed += 1
            lasts = fractions_in(answer)[0]
            self.assertEqual(lasts, wanted)
            self.assertTrue(can_be_gone(velocities, there, way, lasts))
        self.assertGreater(sailed, 50)
        self.assertGreater(never, 50)

    def test_3_two_ways_take_no_less_than_the_way_straight_there(self):
        source = random.Random(3)
        compared = 0
        for turn in range(150):
            e, n = source.randint(-20, 20), source.randint(-20, 20)
            ways = [(source.randint(-50, 50), source.randint(-50, 50)) for k in (1, 2)]
            ways.append((ways[0][0] + ways[1][0], ways[0][1] + ways[1][1]))
            calls = [load(f"station A 0 0\nwind A 0 {e} {n}\n"), table(some_table(source, 2000))]
            parts = ask(*calls, *[time(0, 0, 0, *way) for way in ways])[2:]
            if [-7] not in parts[:2]:
                compared += 1
                times = [fractions_in(part)[0] for part in parts]
                self.assertLessEqual(times[2], times[0] + times[1])
        self.assertGreater(compared, 50)

    def test_3_by_hand(self):
        # North takes 20 by beating; north-east and north-west 10 each, and both together go north.
        calls = [load("station A 0 0\nwind A 0 0 -10\n"), table([-500, 500, -500, -500])]
        parts = ask(*calls, time(0, 0, 0, 50, 50), time(0, 0, 0, -50, 50), time(0, 0, 0, 0, 100))[2:]
        self.assertEqual(parts, [told("10/1"), told("10/1"), told("20/1")])


def scene(turn):
    """A whole list of calls, each place and wind handed through turn."""
    def turned_list(numbers):
        return [number for x, y in zip(numbers[::2], numbers[1::2]) for number in turn(x, y)]

    def text(stations):
        return weather_text([(name, *turn(x, y), {t: turn(e, n) for t, (e, n) in seen.items()})
                             for name, x, y, seen in stations])

    stations = [("A", 0, 0, {0: (3, -14), 30: (9, -8)}), ("B", 70, -20, {5: (1, -12), 40: (-7, -10)}),
                ("C", -30, 95, {0: (0, 0), 25: (2, -19)})]
    velocities = [-500, 500, -500, -500, 700, 100]
    return [load(text(stations)), printed(), table(velocities), speak(0), speak(30), observe(1, 40, *turn(6, -1)),
            observe(3, 31, *turn(0, -9)), observe(3, 31, 0, 0), observe(1, 41, *turn(1001, 0)),
            wind(*turn(0, 0), 7), wind(*turn(11, -13), 20), wind(*turn(100000, -100000), 38),
            wind(*turn(100001, 0), 3), wind(*turn(1, 2), 41),
            time(*turn(5, 5), 6, *turn(40, 90)), time(*turn(5, 5), 6, *turn(-40, -90)),
            time(*turn(0, 0), 10, *turn(0, 0)), time(*turn(0, 0), 41, *turn(1, 0)),
            course(2, turned_list([0, 0, 20, 60, -10, -10])), course(2, turned_list([70, -20, 70, 0])),
            course(39, turned_list([1, 1, 20, 600, -10, -10])), course(2, turned_list([0, 0, 100001, 0])),
            set_leg(*turn(1, 7), 12, *turn(3, 4), 1000), set_leg(*turn(1, 7), 12, *turn(0, 0), 1), printed()]


class Turned(unittest.TestCase):
    def setUp(self):
        self.plain = ask(*scene(lambda x, y: (x, y)))
        self.turned = ask(*scene(lambda x, y: (-y, x)))
        self.numbers = [call[0] for call in scene(lambda x, y: (x, y))]

    def test_4_nothing_changes_but_the_directions(self):
        for number, plain, turned in zip(self.numbers, self.plain, self.turned):
            if number not in (1, 3):
                self.assertEqual(plain, turned)

    def test_4_winds_are_turned(self):
        for number, plain, turned in zip(self.numbers, self.plain, self.turned):
            if number == 3 and len(plain) > 1:
                east, north = fractions_in(plain)
                self.assertEqual(fractions_in(turned), [-north, east])
            elif number == 3:
                self.assertEqual(plain, turned)

    def test_4_the_written_weather_is_turned(self):
        for number, plain, turned in zip(self.numbers, self.plain, self.turned):
            if number == 1:
                rows = []
                for row in bytes(plain).decode().splitlines():
                    words = row.split(" ")
                    rows.append(" ".join(words[:-2] + [str(-int(words[-1])), words[-2]]) + "\n")
                self.assertEqual("".join(rows), bytes(turned).decode())

    def test_4_the_list_is_worth_turning(self):
        refused = [plain[0] for plain in self.plain if len(plain) == 1 and plain[0] < 0]
        self.assertEqual(sorted(refused), [-10, -10, -9, -7, -6, -6, -5])
        self.assertEqual([plain[0] for number, plain in zip(self.numbers, self.plain) if number == 7], [2, 1, 1, -9])


if __name__ == "__main__":
    unittest.main()
