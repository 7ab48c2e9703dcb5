"""Exact fractions of whole numbers, always in lowest terms."""

from windcourses.texts import bytes_of


# A fraction; its bottom is above 0, and no number above 1 divides both parts.
class Ratio:
    def __init__(self, top, bottom):
        divisor = greatest_divisor(top, bottom)
        # The bottom's sign goes into the divisor, so that the bottom comes out above 0.
        if bottom < 0:
            divisor = -divisor
        self.top = top // divisor
        self.bottom = bottom // divisor


def greatest_divisor(first, second):
    larger = abs(first)
    smaller = abs(second)
    while smaller != 0:
        rest = larger % smaller
        larger = smaller
        smaller = rest
    return larger


def whole(number):
    return Ratio(number, 1)


def add_ratios(first, second):
    return Ratio(first.top * second.bottom + second.top * first.bottom, first.bottom * second.bottom)


def multiply_ratios(first, second):
    return Ratio(first.top * second.top, first.bottom * second.bottom)


def divide_ratios(first, second):
    return Ratio(first.top * second.bottom, first.bottom * second.top)


def is_less(first, second):
    return first.top * second.bottom < second.top * first.bottom


def tell_ratio(ratio):
    told = bytes_of(str(ratio.top) + "/" + str(ratio.bottom))
    return [len(told)] + told
