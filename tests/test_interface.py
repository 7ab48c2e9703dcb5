import unittest

from tests.helper import BEAT, SOUTH, ask, between, bias, course, last, line, load, mean, observe, printed, set_leg
from tests.helper import shift, speak, stations, strongest, table, time, told, turned, wind
from windcourses.weather import answers


def every_call():
    """Calls of every kind, some of them refused."""
    return [load(SOUTH), printed(), observe(1, 50, 3, 4), wind(1, 2, 45), speak(3), table(BEAT), time(0, 0, 0, 3, 9),
            course(1, [0, 0, 0, 50, 1, 90]), set_leg(0, 0, 0, 1, 9, 100), load("wrong"), table([1]), printed(),
            line(0, 0, 45, 5), bias(0, 0, 1, 2, 3), shift(0, 0, 0, 50), turned(0, 0, 0, 50, 1, 2), strongest(7),
            mean(1, 3, 47), between(0, 0, 0, 3, 9, [-700, 0, 0, 1, 0, -1]), stations(), between(0, 0, 0, 3, 9, [1]),
            mean(1, 5, 5), stations(), printed()]


def flat(calls):
    return [number for call in calls for number in call]


# A list that can't be changed, not for a while either.
class Sealed(list):
    def refuse(self, *args, **kwargs):
        raise AssertionError("what is handed in is changed")

    append = extend = insert = pop = remove = clear = reverse = sort = refuse
    __setitem__ = __delitem__ = __iadd__ = __imul__ = refuse


class Interface(unittest.TestCase):
    def test_how_answers_are_laid_into_one_list(self):
        calls = load("station A 0 0\nwind A 0 0 -10\n") + speak(0) + speak(-1) + wind(0, 0, 0) + table([1000, 0])
        calls += time(0, 0, 0, 0, -5) + course(0, [0, 0, 0, -5]) + set_leg(0, 0, 0, 0, -5, 2) + observe(1, 9, 1, 1)
        wanted = [2, 1, 1, 2, 1, 1, 1, -10, 10, 3, 48, 47, 49, 5, 45, 49, 48, 47, 49, 1, 1]
        wanted += [4, 3, 49, 47, 50, 5, 1, 3, 49, 47, 50, 1, 4, 1, 2]
        self.assertEqual(answers(calls), wanted)

    def test_how_the_later_answers_are_laid_into_it(self):
        calls = load("station A 0 0\nwind A 0 0 -1\nwind A 2 1 0\n") + line(0, 0, 0, 5) + bias(0, 0, 0, 2, 0)
        calls += shift(0, 0, 0, 2) + turned(0, 0, 0, 2, 1, 1) + strongest(1) + mean(1, 0, 2)
        calls += between(0, 0, 0, 0, -5, [1000, 0]) + stations() + mean(1, 1, 1)
        wanted = [2, 1, 2, 3, 1, -5, 0, 5, 2, 3, 52, 47, 49, 6, 1, 0, 3, 49, 47, 49, 1, 1, 5, 1, 3, 49, 47, 50]
        wanted += [9, 3, 49, 47, 50, 4, 45, 49, 47, 50, 1, 2, 4, 1, 0, 0, 2, 1, -10]
        self.assertEqual(answers(calls), wanted)

    def test_printed_has_no_count_of_its_own(self):
        self.assertEqual(answers(printed()), [0])
        self.assertEqual(answers(load("station A 0 0") + printed()), [2, 1, 0, 14] + list(b"station A 0 0\n"))

    def test_rows_with_no_numbers(self):
        calls = load("") + table([]) + course(0, []) + between(0, 0, 0, 0, 0, []) + speak(0)
        self.assertEqual(answers(calls), [2, 0, 0, 1, -9, 1, -9, 1, -9, 1, 0])

    def test_the_list_handed_in_stays_as_it_is(self):
        calls = flat(every_call())
        copy = list(calls)
        answers(calls)
        self.assertEqual(calls, copy)

    def test_rows_of_forty_numbers(self):
        row = [1, 2] * 20
        calls = table(row) + course(0, row) + between(0, 0, 0, 0, 0, row) + stations()
        self.assertEqual(answers(calls), [1, -9, 1, -9, 1, -9, 1, 0])

    def test_every_kind_of_call_is_tried(self):
        self.assertEqual({call[0] for call in every_call()}, set(range(17)))
        refused = [part[0] for part in ask(*every_call()) if len(part) == 1 and part[0] < 0]
        self.assertEqual(refused, [-1001, -9, -9, -10])

    def test_the_list_is_not_changed_for_a_while_either(self):
        self.assertEqual(answers(Sealed(flat(every_call()))), answers(flat(every_call())))

    def test_the_answer_is_a_new_list_of_whole_numbers(self):
        calls = flat(every_call())
        told_first = answers(calls)
        self.assertIs(type(told_first), list)
        self.assertEqual({type(number) for number in told_first}, {int})
        told_first.clear()
        self.assertNotEqual(answers(calls), [])

    def test_nothing_is_kept_from_one_time_to_the_next(self):
        calls = flat(every_call())
        first = answers(calls)
        self.assertEqual(answers(calls), first)
        self.assertEqual(answers(printed()), [0])
        self.assertEqual(last(load(SOUTH), time(0, 0, 0, 0, 1)), [-7])
        self.assertEqual(answers(calls), first)

    def test_a_hundred_calls(self):
        self.assertEqual(ask(*[speak(0)] * 100), [[0]] * 100)
        rows = "".join(f"station S{k} {k * 997} {k * k * 991}\nwind S{k} 0 {k} -9\nwind S{k} 99991 -7 {k}\n"
                       for k in range(6))
        legs = [course(t, [-99999, 3, 99999, 5, 7, 9]) for t in range(98)]
        parts = ask(load(rows), table([-500, 500, -500, -500, 700, 3, 701, -9] * 3), *legs)
        self.assertEqual([part[0] for part in parts[2:]], [2] * 98)
        shifts = [shift(-99999, 3, t, 99990 - t) for t in range(99)]
        self.assertGreater(min(len(part) for part in ask(load(rows), *shifts)[1:]), 50)

    def test_a_long_list(self):
        parts = ask(*[load(SOUTH + "#" * (4000 - len(SOUTH)))] * 4, speak(0))
        self.assertEqual(parts, [[1, 2]] * 4 + [[1, 1]])
        self.assertEqual(ask(*[load("\n" * 5000)] * 3, printed()), [[-8]] * 3 + [[]])

    def test_a_refusal_is_alone(self):
        self.assertEqual(ask(load("x"), observe(1, 0, 0, 0), wind(0, 0, 0), speak(-1), table([]), time(0, 0, 0, 0, 0),
                             course(-1, []), set_leg(0, 0, 0, 0, 0, 0)),
                         [[-1001], [-2], [-6], [-10], [-9], [-6], [-10], [-6]])
        self.assertEqual(ask(line(0, 0, 0, 1), bias(0, 0, 0, 0, 0), shift(0, 0, 0, 0), turned(0, 0, 0, 0, 0, 1),
                             strongest(0), mean(1, 0, 1), between(0, 0, 0, 0, 0, [0, 0]), stations()),
                         [[-6], [-6], [-6], [-6], [-6], [-2], [-6], [0]])

    def test_fractions_below_0_and_in_lowest_terms(self):
        text = "station A 0 0\nwind A 0 0 0\nwind A 6 -4 9\n"
        self.assertEqual(last(load(text), wind(0, 0, 1)), told("-2/3", "3/2"))
        self.assertEqual(last(load(text), wind(0, 0, 3)), told("-2/1", "9/2"))


if __name__ == "__main__":
    unittest.main()
