"""The bounds that texts and calls have in common, and the check of them."""

FAR = 100000
LAST_TIME = 100000
STRONG = 1000
FAST = 3000

MOST_STATIONS = 6
MOST_SIGHTS = 20
MOST_BYTES = 4000
MOST_VELOCITIES = 12
MOST_SECONDS = 1000000
LONGEST_LINE = 100000
FARTHEST_END = 1000000000
STEEPEST = 1000


def all_within(numbers, least, most):
    for number in numbers:
        if number < least or number > most:
            return False
    return True


def are_places(numbers):
    return all_within(numbers, -FAR, FAR)


def are_times(numbers):
    return all_within(numbers, 0, LAST_TIME)


def are_strengths(numbers):
    return all_within(numbers, -STRONG, STRONG)
