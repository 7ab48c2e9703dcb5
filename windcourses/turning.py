"""Square lines, places further against the wind, and how winds are turned to one another.

All of it goes by headings: whole numbers, east and north, not both 0, that go as a wind goes.
"""

from windcourses.ratio import Ratio


# Above 0 if the second is to the left of the first, below 0 if to the right.
def across(first, second):
    return first[0] * second[1] - first[1] * second[0]


# Above 0 if both go along, below 0 if they go against one another.
def along(first, second):
    return first[0] * second[0] + first[1] * second[1]


# 1 for a number above 0, 2 for one below 0, 0 for 0.
def sign_code(number):
    if number > 0:
        return 1
    if number < 0:
        return 2
    return 0


# The square of the sine of the angle between both.
def sine_square(first, second):
    return Ratio(across(first, second) ** 2, along(first, first) * along(second, second))


# Whether the angle between both is greater than the one below a right angle with the tangent top over bottom.
def is_turned_beyond(first, second, top, bottom):
    if along(first, second) <= 0:
        return True
    return abs(across(first, second)) * bottom > along(first, second) * top


# The least number of steps, each of a length with this square, that go at least so far; both are above 0.
def least_steps(square, distance):
    too_few = 0
    enough = distance
    while enough - too_few > 1:
        middle = (too_few + enough) // 2
        if middle ** 2 * square >= distance ** 2:
            enough = middle
        else:
            too_few = middle
    return enough


# The port end of the square line with its starboard end at the place, and at least so long.
def port_end(heading, place, distance):
    steps = least_steps(along(heading, heading), distance)
    # Left of where the wind comes from is right of where it goes.
    return (place[0] + steps * heading[1], place[1] - steps * heading[0])


# How far the first place lies further against the wind than the second, times the heading's length.
def lead_against(heading, first, second):
    return along(heading, (second[0] - first[0], second[1] - first[1]))


# The square of how far a place lies further, from its lead times the heading's length.
def lead_square(heading, lead):
    return Ratio(lead ** 2, along(heading, heading))
