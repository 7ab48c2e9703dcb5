"""The promises 1 to 4, at inputs of a fixed row of numbers, by a second way of reckoning."""

import random
import unittest

from tests.helper import ask, between, bias, can_be_gone, course, dot, fractions_in, last, line, load, mean, observe
from tests.helper import printed, second_station_wind, second_time, second_wind, set_leg, shift, speak, stations
from tests.helper import strongest, table, time, told, turned, weather_text, wind

DIRECTIONS = [(1, 0), (0, 1), (-1, 0), (0, -1), (1, 1), (-1, 1), (3, -2), (-5, -7), (1, 1000)]


def some_stations(source, far, strong):
    places = [(source.randint(-far, far), source.randint(-far, far)) for k in range(source.randint(1, 6))]
    told_by = []
    for k, (x, y) in enumerate(dict.fromkeys(places)):
        seen = {source.randint(0, 12): (source.randint(-strong, strong), source.randint(-strong, strong))
                for sight in range(source.randint(0, 5))}
        told_by.append((f"S{k}", x, y, seen))
    return told_by


def some_table(source, fast):
    return [source.randint(-fast, fast) for k in range(2 * source.randint(1, 12))]


class Promises(unittest.TestCase):
    def test_1_the_wind_lies_between_those_that_speak(self):
        source = random.Random(1)
        heard = 0
        for turn in range(200):
            told_by = some_stations(source, 20, 1000)
            x, y, t = source.randint(-20, 20), source.randint(-20, 20), source.randint(0, 12)
            answer, best = ask(load(weather_text(told_by)), wind(x, y, t), strongest(t))[1:]
            winds = [second_station_wind(seen, t) for name, sx, sy, seen in told_by]
            winds = [found for found in winds if found is not None]
            if not winds:
                self.assertEqual((answer, best), ([-6], [-6]))
                continue
            heard += 1
            there = fractions_in(answer)
            self.assertEqual(tuple(there), second_wind(told_by, x, y, t))
            # No direction it goes further in, so it's not stronger than the strongest either.
            self.assertLessEqual(dot(there, there), fractions_in(best[1:])[0])
            for u, v in DIRECTIONS:
                furthest = max(u * e + v * n for e, n in winds)
                self.assertLessEqual(u * there[0] + v * there[1], furthest)
        self.assertGreater(heard, 100)

    def test_1_the_mean_lies_between_what_was_seen(self):
        source = random.Random(4)
        for turn in range(60):
            seen = {t: (source.randint(-9, 9), source.randint(-9, 9)) for t in (0, *source.sample(range(1, 20), 5), 20)}
            t = source.randint(0, 19)
            s = source.randint(t + 1, 20)
            told_mean = fractions_in(last(load(weather_text([("A", 0, 0, seen)])), mean(1, t, s)))
            winds = [second_station_wind(seen, moment) for moment in range(t, s + 1)]
            for direction in DIRECTIONS:
                self.assertLessEqual(dot(direction, told_mean), max(dot(direction, found) for found in winds))

    def test_1_by_hand(self):
        # Between (6, 0) and (0, 3), which count 1/1 and 1/4 at 1, 0.
        text = "station A 0 0\nstation B 3 0\nwind A 0 6 0\nwind B 0 0 3\n"
        self.assertEqual(last(load(text), wind(1, 0, 0)), told("24/5", "3/5"))

    def test_2_no_less_time_than_told_and_it_can_be_gone(self):
        source = random.Random(2)
        sailed = never = 0
        for turn in range(400):
            told_by = some_stations(source, 9, 5)
            fast = source.choice((2, 3, 3000))
            velocities = some_table(source, fast)[:source.choice((2, 4, 6, 24))]
            x, y, t = source.randint(-9, 9), source.randint(-9, 9), source.randint(0, 12)
            way = source.randint(-3, 3), source.randint(-3, 3)
            answer = last(load(weather_text(told_by)), table(velocities), time(x, y, t, *way))
            there = second_wind(told_by, x, y, t)
            if there is None:
                self.assertEqual(answer, [-6])
                continue
            wanted = second_time(velocities, there, way)
            if wanted is None:
                never += 1
                self.assertEqual(answer, [-7])
                continue
            sailed += 1
            lasts = fractions_in(answer)[0]
            self.assertEqual(lasts, wanted)
            self.assertTrue(can_be_gone(velocities, there, way, lasts))
        self.assertGreater(sailed, 50)
        self.assertGreater(never, 50)

    def test_2_between_goes_by_these_times(self):
        source = random.Random(5)
        codes = []
        for turn in range(150):
            told_by = some_stations(source, 9, 5)
            tables = [some_table(source, 3)[:source.choice((2, 4, 6))] for which in (0, 1)]
            x, y, t = source.randint(-9, 9), source.randint(-9, 9), source.randint(0, 12)
            way = source.randint(-3, 3), source.randint(-3, 3)
            calls = [call for velocities in tables for call in (table(velocities), time(x, y, t, *way))]
            parts = ask(load(weather_text(told_by)), between(x, y, t, *way, tables[0]), *calls,
                        between(x, y, t, *way, tables[0]))
            if parts[3] == [-6]:
                self.assertEqual((parts[1], parts[6]), ([-6], [-6]))
                continue
            # Later than any time that there is: never.
            times = [(1, 0) if part == [-7] else (0, fractions_in(part)[0]) for part in (parts[5], parts[3])]
            codes.append(0 if times[0] == times[1] else 1 if times[0] < times[1] else 2)
            self.assertEqual(parts[6], [codes[-1]])
        self.assertEqual(set(codes), {0, 1, 2})

    def test_3_two_ways_take_no_less_than_the_way_straight_there(self):
        source = random.Random(3)
        compared = 0
        for turn in range(150):
            e, n = source.randint(-20, 20), source.randint(-20, 20)
            ways = [(source.randint(-50, 50), source.randint(-50, 50)) for k in (1, 2)]
            ways.append((ways[0][0] + ways[1][0], ways[0][1] + ways[1][1]))
            calls = [load(f"station A 0 0\nwind A 0 {e} {n}\n"), table(some_table(source, 2000))]
            parts = ask(*calls, *[time(0, 0, 0, *way) for way in ways])[2:]
            if [-7] not in parts[:2]:
                compared += 1
                times = [fractions_in(part)[0] for part in parts]
                self.assertLessEqual(times[2], times[0] + times[1])
        self.assertGreater(compared, 50)

    def test_3_by_hand(self):
        # North takes 20 by beating; north-east and north-west 10 each, and both together go north.
        calls = [load("station A 0 0\nwind A 0 0 -10\n"), table([-500, 500, -500, -500])]
        parts = ask(*calls, time(0, 0, 0, 50, 50), time(0, 0, 0, -50, 50), time(0, 0, 0, 0, 100))[2:]
        self.assertEqual(parts, [told("10/1"), told("10/1"), told("20/1")])


def scene(turn):
    """A whole list of calls, all the kinds 0 to 16, each place, way and wind handed through turn."""
    def turned_list(numbers):
        return [number for x, y in zip(numbers[::2], numbers[1::2]) for number in turn(x, y)]

    def text(told_by):
        return weather_text([(name, *turn(x, y), {t: turn(e, n) for t, (e, n) in seen.items()})
                             for name, x, y, seen in told_by])

    told_by = [("A", 0, 0, {0: (3, -14), 30: (9, -8)}), ("B", 70, -20, {5: (1, -12), 40: (-7, -10)}),
               ("C", -30, 95, {0: (0, 0), 25: (2, -19)})]
    velocities = [-500, 500, -500, -500, 700, 100]
    others = [-700, 0, 0, 300, 0, -300]
    return [stations(), load(text(told_by)), printed(), between(*turn(5, 5), 6, *turn(40, 90), others),
            table(velocities), speak(0), speak(30), stations(), observe(1, 40, *turn(6, -1)),
            observe(3, 31, *turn(0, -9)), observe(3, 31, 0, 0), observe(1, 41, *turn(1001, 0)),
            wind(*turn(0, 0), 7), wind(*turn(11, -13), 20), wind(*turn(100000, -100000), 38),
            wind(*turn(100001, 0), 3), wind(*turn(1, 2), 41),
            time(*turn(5, 5), 6, *turn(40, 90)), time(*turn(5, 5), 6, *turn(-40, -90)),
            time(*turn(0, 0), 10, *turn(0, 0)), time(*turn(0, 0), 41, *turn(1, 0)),
            course(2, turned_list([0, 0, 20, 60, -10, -10])), course(2, turned_list([70, -20, 70, 0])),
            course(39, turned_list([1, 1, 20, 600, -10, -10])), course(2, turned_list([0, 0, 100001, 0])),
            set_leg(*turn(1, 7), 12, *turn(3, 4), 1000), set_leg(*turn(1, 7), 12, *turn(0, 0), 1),
            line(*turn(0, 0), 0, 70), line(*turn(70, -20), 19, 100000), line(*turn(11, -13), 20, 5),
            line(*turn(11, -12), 7, 5), line(*turn(-30, 95), 0, 5), line(*turn(4, 5), 41, 5),
            bias(*turn(0, 0), *turn(14, 3), 0), bias(*turn(11, -13), *turn(20, -40), 20),
            bias(*turn(0, 1), *turn(-80, 90), 33), bias(*turn(-30, 95), *turn(1, 1), 0),
            shift(*turn(0, 0), 0, 40), shift(*turn(11, -13), 38, 6), shift(*turn(-30, 95), 1, 25),
            shift(*turn(-30, 95), 0, 25), shift(*turn(1, 1), 2, 41),
            turned(*turn(0, 0), 0, 40, 1, 1), turned(*turn(11, -13), 38, 6, 1, 1), turned(*turn(70, -20), 5, 40, 2, 3),
            strongest(0), strongest(33), strongest(41), mean(1, 3, 37), mean(2, 5, 40), mean(3, 0, 30), mean(3, 0, 40),
            between(*turn(5, 5), 6, *turn(40, 90), others), between(*turn(5, 5), 6, *turn(-40, 9), others),
            between(*turn(5, 5), 6, *turn(9, -90), others), between(*turn(5, 5), 6, *turn(0, 0), others),
            stations(), printed()]


def plain_scene():
    return scene(lambda x, y: (x, y))


QUARTERS = [lambda x, y: (-y, x), lambda x, y: (-x, -y), lambda x, y: (y, -x)]


def turned_text(text, quarter):
    rows = []
    for row in text.splitlines():
        words = row.split(" ")
        rows.append(" ".join(words[:-2] + [str(number) for number in quarter(int(words[-2]), int(words[-1]))]) + "\n")
    return "".join(rows)


def turned_answer(number, answer, quarter):
    """The answer of the call with this number as it must be when all is turned."""
    if len(answer) == 1:
        return answer
    if number == 1:
        return list(turned_text(bytes(answer).decode(), quarter).encode())
    if number in (3, 14):
        return told(*[f"{part.numerator}/{part.denominator}" for part in quarter(*fractions_in(answer))])
    if number == 9:
        return [1, *quarter(*answer[1:])]
    if number == 16:
        rows = [answer[place:place + 3] for place in range(1, len(answer), 3)]
        return answer[:1] + [part for x, y, count in rows for part in (*quarter(x, y), count)]
    return answer


class Turned(unittest.TestCase):
    def setUp(self):
        self.numbers = [call[0] for call in plain_scene()]
        self.plain = ask(*plain_scene())

    def test_4_nothing_changes_but_the_directions(self):
        for quarter in QUARTERS:
            for number, plain, other in zip(self.numbers, self.plain, ask(*scene(quarter))):
                self.assertEqual(turned_answer(number, plain, quarter), other, number)

    def test_4_the_list_is_worth_turning(self):
        self.assertEqual(set(self.numbers), set(range(17)))
        told_of = {number: [plain[0] for n, plain in zip(self.numbers, self.plain) if n == number]
                   for number in range(17)}
        refused = [plain[0] for plain in self.plain if len(plain) == 1 and plain[0] < 0]
        self.assertEqual(sorted(refused), [-11, -10, -10, -9, -7, -7, -7, -7, -6, -6, -6, -6, -6, -6, -5])
        self.assertEqual(told_of[7], [2, 1, 1, -9])
        self.assertEqual([set(told_of[number]) for number in (10, 11, 12, 15)],
                         [{0, 1, 2, -7}, {0, 1, 2, -6, -7}, {0, 1}, {0, 1, 2}])


if __name__ == "__main__":
    unittest.main()
