"""Calls built by name, answers taken apart, and a second way of reckoning."""

from fractions import Fraction
from itertools import combinations

from windcourses.weather import answers

HUGE = 10 ** 18

# A wind to the south, of 10 at the time 0 and of 20 at the time 40.
SOUTH = "station A 0 0\nwind A 0 0 -10\nwind A 40 0 -20\n"
# Two velocities by which one beats against the wind: 5 to either side and 5 against it in a wind of 10.
BEAT = [-500, 500, -500, -500]
CALM = "station C 0 0\nwind C 0 0 0\nwind C 10 0 0\n"


def load(text):
    row = list(text.encode("latin-1")) if isinstance(text, str) else list(text)
    return [0, len(row)] + row


def printed():
    return [1]


def observe(i, t, e, n):
    return [2, i, t, e, n]


def wind(x, y, t):
    return [3, x, y, t]


def speak(t):
    return [4, t]


def table(velocities):
    return [5, len(velocities)] + velocities


def time(x, y, t, dx, dy):
    return [6, x, y, t, dx, dy]


def course(t, places):
    return [7, t, len(places)] + places


def set_leg(x, y, t, dx, dy, k):
    return [8, x, y, t, dx, dy, k]


def line(x, y, t, k):
    return [9, x, y, t, k]


def bias(x, y, u, v, t):
    return [10, x, y, u, v, t]


def shift(x, y, t, s):
    return [11, x, y, t, s]


def turned(x, y, t, s, p, q):
    return [12, x, y, t, s, p, q]


def strongest(t):
    return [13, t]


def mean(i, t, s):
    return [14, i, t, s]


def between(x, y, t, dx, dy, velocities):
    return [15, x, y, t, dx, dy, len(velocities)] + velocities


def stations():
    return [16]


def ask(*calls):
    """The answers of the calls, one list each."""
    told = answers([number for call in calls for number in call])
    parts = []
    place = 0
    while place < len(told):
        size = told[place]
        parts.append(told[place + 1:place + 1 + size])
        if len(parts[-1]) != size:
            raise ValueError("an answer is cut off")
        place += 1 + size
    if len(parts) != len(calls):
        raise ValueError("not one answer for each call")
    return parts


def last(*calls):
    return ask(*calls)[-1]


def told(*texts):
    """Fractions' texts as they are answered."""
    row = []
    for text in texts:
        row += [len(text)] + list(text.encode())
    return row


def text_of(fraction):
    return f"{fraction.numerator}/{fraction.denominator}"


def fractions_in(row):
    """The fractions that the row tells; each must be in lowest terms."""
    found = []
    place = 0
    while place < len(row):
        text = bytes(row[place + 1:place + 1 + row[place]]).decode()
        found.append(Fraction(text))
        if text != text_of(found[-1]):
            raise ValueError("not in lowest terms: " + text)
        place += 1 + row[place]
    return found


def weather_text(stations):
    """The text of stations, each (name, x, y, {t: (e, n)})."""
    rows = [f"station {name} {x} {y}\n" for name, x, y, seen in stations]
    for name, x, y, seen in stations:
        rows += [f"wind {name} {t} {e} {n}\n" for t, (e, n) in seen.items()]
    return "".join(rows)


def second_station_wind(seen, t):
    if t in seen:
        return Fraction(seen[t][0]), Fraction(seen[t][1])
    before = [time for time in seen if time < t]
    behind = [time for time in seen if time > t]
    if not before or not behind:
        return None
    first, then = max(before), min(behind)
    share = Fraction(t - first) / (then - first)
    return tuple(seen[first][k] + share * (seen[then][k] - seen[first][k]) for k in (0, 1))


def second_wind(stations, x, y, t):
    """The wind by weights that are the products of the other stations' squares, or None."""
    heard = []
    for name, sx, sy, seen in stations:
        found = second_station_wind(seen, t)
        if found is not None:
            heard.append(((x - sx) ** 2 + (y - sy) ** 2, found))
    if not heard:
        return None
    weights = []
    for k in range(len(heard)):
        weight = 1
        for j in range(len(heard)):
            weight *= heard[j][0] if j != k else 1
        weights.append(weight)
    # Where a station stands all other weights are 0, so this needs no case of its own.
    return tuple(sum(w * h[1][k] for w, h in zip(weights, heard)) / Fraction(sum(weights)) for k in (0, 1))


def second_port_end(wind, place, k):
    """The port end by trying every whole place in a box; None if there is none in it."""
    e, n = wind
    far = 3 * k + 30
    best = None
    for dx in range(-far, far + 1):
        for dy in range(-far, far + 1):
            # One looks to (-e, -n): the place is square to that, and on its left.
            if dx * e + dy * n == 0 and -e * dy + n * dx > 0 and dx * dx + dy * dy >= k * k:
                best = min(best or (far * far, 0, 0), (dx * dx + dy * dy, dx, dy))
    return best and (place[0] + best[1], place[1] + best[2])


def second_bias(wind, first, second):
    """Which place lies further against the wind, and by how much squared, from how far each of them lies."""
    marks = [Fraction(-dot(wind, place)) for place in (first, second)]
    ahead = 0 if marks[0] == marks[1] else 1 if marks[0] > marks[1] else 2
    return ahead, (marks[0] - marks[1]) ** 2 / dot(wind, wind)


def second_shift(first, second):
    """The turn's two codes by the first wind's own frame, and the sine's square by the cosine's."""
    ahead = dot(first, second) / Fraction(dot(first, first))
    aside = dot((-first[1], first[0]), second) / Fraction(dot(first, first))
    codes = [0 if part == 0 else 1 if part > 0 else 2 for part in (aside, ahead)]
    return codes, 1 - Fraction(dot(first, second)) ** 2 / (dot(first, first) * dot(second, second))


def second_turned(first, second, p, q):
    """Whether the angle is greater, by its cosine, which is less the greater the angle is."""
    if dot(first, second) <= 0:
        return True
    return dot(first, second) ** 2 * (p * p + q * q) < q * q * dot(first, first) * dot(second, second)


def second_mean(seen, t, s):
    """The mean by single seconds, since the wind only bends at whole times."""
    ends = [second_station_wind(seen, moment) for moment in range(t, s + 1)]
    return [sum((a[k] + b[k]) / 2 for a, b in zip(ends, ends[1:])) / (s - t) for k in (0, 1)]


def velocities_in(table, wind):
    e, n = wind
    return [(Fraction(a * e - b * n) / 1000, Fraction(a * n + b * e) / 1000) for a, b in zip(table[::2], table[1::2])]


def dot(p, q):
    return p[0] * q[0] + p[1] * q[1]


def second_time(table, wind, way):
    """The time by the dual: the most that y times the way can be while y times no velocity is above 1; or None."""
    if way == (0, 0):
        return Fraction(0)
    speeds = velocities_in(table, wind)
    rays = [way]
    for v in speeds:
        rays += [v, (-v[0], -v[1]), (-v[1], v[0]), (v[1], -v[0])]
    for ray in rays:
        if dot(ray, way) > 0 and all(dot(ray, v) <= 0 for v in speeds):
            return None
    corners = [(v[0] / dot(v, v), v[1] / dot(v, v)) for v in speeds if v != (0, 0)]
    for v, w in combinations(speeds, 2):
        area = v[0] * w[1] - v[1] * w[0]
        if area != 0:
            corners.append(((w[1] - v[1]) / area, (v[0] - w[0]) / area))
    return max(dot(y, way) for y in corners if all(dot(y, v) <= 1 for v in speeds))


def can_be_gone(table, wind, way, lasts):
    """Whether the way can be gone in just so much time, resting too if one likes."""
    speeds = velocities_in(table, wind) + [(Fraction(0), Fraction(0))]
    if way == (0, 0):
        return lasts >= 0
    for v, w in combinations(speeds, 2):
        area = v[0] * w[1] - v[1] * w[0]
        if area != 0:
            s = (way[0] * w[1] - way[1] * w[0]) / area
            t = (v[0] * way[1] - v[1] * way[0]) / area
            if s >= 0 and t >= 0 and s + t <= lasts:
                return True
        if w == (0, 0) and dot(v, v) > 0:
            s = dot(v, way) / dot(v, v)
            if 0 <= s <= lasts and (s * v[0], s * v[1]) == way:
                return True
    return False
