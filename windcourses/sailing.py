"""The least time in which a way can be gone by a table's velocities."""

from windcourses.air import is_calm, wind_at
from windcourses.ratio import Ratio, add_ratios, is_less, multiply_ratios, whole


# How long the way takes in the wind, a ratio, or None if it never can be gone.
def way_time(table, wind, dx, dy):
    if dx == 0 and dy == 0:
        return whole(0)
    if is_calm(wind):
        return None
    # The way is turned into the wind's own frame, where the velocities are the table's whole numbers.
    east = wind.east.top * wind.north.bottom
    north = wind.north.top * wind.east.bottom
    scale = wind.east.bottom * wind.north.bottom
    turned = least_time(table, dx * east + dy * north, dy * east - dx * north)
    if turned is None:
        return None
    return multiply_ratios(turned, Ratio(1000 * scale, east * east + north * north))


# The least time for a way that is not 0, or None; no more than two velocities are ever needed for it.
def least_time(table, along, left):
    best = None
    for place, first in enumerate(table):
        best = lesser(best, time_by_one(first, along, left))
        for second in table[:place]:
            best = lesser(best, time_by_two(first, second, along, left))
    return best


# Whether the first of two times is less, where None is never.
def is_sooner(first, second):
    if first is None:
        return False
    return second is None or is_less(first, second)


def lesser(first, second):
    if is_sooner(first, second):
        return first
    return second


# 1 if the first of two times is less, 2 if it is more, 0 if it is as much.
def compare_times(first, second):
    if is_sooner(first, second):
        return 1
    if is_sooner(second, first):
        return 2
    return 0


def time_by_one(velocity, along, left):
    if velocity[0] * left != velocity[1] * along:
        return None
    ahead = velocity[0] * along + velocity[1] * left
    if ahead <= 0:
        return None
    return Ratio(ahead, velocity[0] ** 2 + velocity[1] ** 2)


def time_by_two(first, second, along, left):
    area = first[0] * second[1] - first[1] * second[0]
    if area == 0:
        return None
    first_time = Ratio(along * second[1] - left * second[0], area)
    second_time = Ratio(first[0] * left - first[1] * along, area)
    if first_time.top < 0 or second_time.top < 0:
        return None
    return add_ratios(first_time, second_time)


# The moments, ratios, at which the legs that are sailed are done.
def course_moments(stations, table, start, places):
    moment = whole(start)
    done = []
    for place, target in zip(places, places[1:]):
        wind = wind_at(stations, place[0], place[1], moment)
        if wind is None:
            return done
        lasts = way_time(table, wind, target[0] - place[0], target[1] - place[1])
        if lasts is None:
            return done
        moment = add_ratios(moment, lasts)
        done.append(moment)
    return done


# The least number from 1 on, so many times a way of that time takes the seconds or more; or None.
def least_repeats(lasts, seconds):
    if seconds == 0:
        return 1
    if lasts.top == 0:
        return None
    # The quotient is rounded up, since the way must take the seconds or more.
    return (seconds * lasts.bottom + lasts.top - 1) // lasts.top
