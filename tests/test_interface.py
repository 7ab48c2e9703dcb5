import unittest

from tests.helper import BEAT, SOUTH, ask, course, last, load, observe, printed, set_leg, speak, table, time, told, wind
from windcourses.weather import answers


def every_call():
    calls = [load(SOUTH), printed(), observe(1, 50, 3, 4), wind(1, 2, 45), speak(3), table(BEAT), time(0, 0, 0, 3, 9),
             course(1, [0, 0, 0, 50, 1, 90]), set_leg(0, 0, 0, 1, 9, 100), load("wrong"), table([1]), printed()]
    return [number for call in calls for number in call]


class Interface(unittest.TestCase):
    def test_how_answers_are_laid_into_one_list(self):
        calls = load("station A 0 0\nwind A 0 0 -10\n") + speak(0) + speak(-1) + wind(0, 0, 0) + table([1000, 0])
        calls += time(0, 0, 0, 0, -5) + course(0, [0, 0, 0, -5]) + set_leg(0, 0, 0, 0, -5, 2) + observe(1, 9, 1, 1)
        wanted = [2, 1, 1, 2, 1, 1, 1, -10, 10, 3, 48, 47, 49, 5, 45, 49, 48, 47, 49, 1, 1]
        wanted += [4, 3, 49, 47, 50, 5, 1, 3, 49, 47, 50, 1, 4, 1, 2]
        self.assertEqual(answers(calls), wanted)

    def test_printed_has_no_count_of_its_own(self):
        self.assertEqual(answers(printed()), [0])
        self.assertEqual(answers(load("station A 0 0") + printed()), [2, 1, 0, 14] + list(b"station A 0 0\n"))

    def test_rows_with_no_numbers(self):
        self.assertEqual(answers(load("") + table([]) + course(0, []) + speak(0)), [2, 0, 0, 1, -9, 1, -9, 1, 0])

    def test_the_list_handed_in_stays_as_it_is(self):
        calls = every_call()
        copy = list(calls)
        answers(calls)
        self.assertEqual(calls, copy)

    def test_the_answer_is_a_new_list_of_whole_numbers(self):
        calls = every_call()
        told_first = answers(calls)
        self.assertIs(type(told_first), list)
        self.assertEqual({type(number) for number in told_first}, {int})
        told_first.clear()
        self.assertNotEqual(answers(calls), [])

    def test_nothing_is_kept_from_one_time_to_the_next(self):
        calls = every_call()
        first = answers(calls)
        self.assertEqual(answers(calls), first)
        self.assertEqual(answers(printed()), [0])
        self.assertEqual(last(load(SOUTH), time(0, 0, 0, 0, 1)), [-7])
        self.assertEqual(answers(calls), first)

    def test_a_hundred_calls(self):
        self.assertEqual(ask(*[speak(0)] * 100), [[0]] * 100)
        rows = "".join(f"station S{k} {k * 997} {k * k * 991}\nwind S{k} 0 {k} -9\nwind S{k} 99991 -7 {k}\n"
                       for k in range(6))
        legs = [course(t, [-99999, 3, 99999, 5, 7, 9]) for t in range(98)]
        parts = ask(load(rows), table([-500, 500, -500, -500, 700, 3, 701, -9] * 3), *legs)
        self.assertEqual([part[0] for part in parts[2:]], [2] * 98)

    def test_a_long_list(self):
        parts = ask(*[load(SOUTH + "#" * (4000 - len(SOUTH)))] * 4, speak(0))
        self.assertEqual(parts, [[1, 2]] * 4 + [[1, 1]])
        self.assertEqual(ask(*[load("\n" * 5000)] * 3, printed()), [[-8]] * 3 + [[]])

    def test_a_refusal_is_alone(self):
        self.assertEqual(ask(load("x"), observe(1, 0, 0, 0), wind(0, 0, 0), speak(-1), table([]), time(0, 0, 0, 0, 0),
                             course(-1, []), set_leg(0, 0, 0, 0, 0, 0)),
                         [[-1001], [-2], [-6], [-10], [-9], [-6], [-10], [-6]])

    def test_fractions_below_0_and_in_lowest_terms(self):
        text = "station A 0 0\nwind A 0 0 0\nwind A 6 -4 9\n"
        self.assertEqual(last(load(text), wind(0, 0, 1)), told("-2/3", "3/2"))
        self.assertEqual(last(load(text), wind(0, 0, 3)), told("-2/1", "9/2"))


if __name__ == "__main__":
    unittest.main()
