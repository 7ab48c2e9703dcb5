"""The wind of a station at a moment, and the wind at a place and a moment."""

from windcourses.ratio import Ratio, add_ratios, divide_ratios, greatest_divisor, is_less, multiply_ratios, whole


# A wind; how far it goes to the east and to the north, both ratios.
class Wind:
    def __init__(self, east, north):
        self.east = east
        self.north = north


def is_calm(wind):
    return wind.east.top == 0 and wind.north.top == 0


def square_of(wind):
    return add_ratios(multiply_ratios(wind.east, wind.east), multiply_ratios(wind.north, wind.north))


# The least whole numbers, east and north, that go as the wind goes; it must not be calm.
def heading_of(wind):
    east = wind.east.top * wind.north.bottom
    north = wind.north.top * wind.east.bottom
    divisor = greatest_divisor(east, north)
    return (east // divisor, north // divisor)


# The station's wind at the moment (a ratio), or None if it does not speak then.
def station_wind(station, moment):
    earlier = None
    for sight in station.seen:
        if sight.moment * moment.bottom == moment.top:
            return Wind(whole(sight.east), whole(sight.north))
        if sight.moment * moment.bottom > moment.top:
            if earlier is None:
                return None
            return wind_between(earlier, sight, moment)
        earlier = sight
    return None


def wind_between(earlier, later, moment):
    span = (later.moment - earlier.moment) * moment.bottom
    gone = moment.top - earlier.moment * moment.bottom
    east = Ratio(earlier.east * (span - gone) + later.east * gone, span)
    north = Ratio(earlier.north * (span - gone) + later.north * gone, span)
    return Wind(east, north)


# The wind at the place and the moment (a ratio), or None if no station speaks.
def wind_at(stations, x, y, moment):
    east = whole(0)
    north = whole(0)
    total = whole(0)
    for station in stations:
        wind = station_wind(station, moment)
        if wind is not None:
            square = (station.x - x) ** 2 + (station.y - y) ** 2
            if square == 0:
                return wind
            weight = Ratio(1, square)
            east = add_ratios(east, multiply_ratios(weight, wind.east))
            north = add_ratios(north, multiply_ratios(weight, wind.north))
            total = add_ratios(total, weight)
    if total.top == 0:
        return None
    return Wind(divide_ratios(east, total), divide_ratios(north, total))


# The numbers, from 1, of the stations that speak at the moment (a ratio).
def speaking(stations, moment):
    return [number for number, station in enumerate(stations, start=1)
            if station_wind(station, moment) is not None]


# The number, from 1, of the station with the strongest wind and that wind's square; or None if none speaks.
def strongest_at(stations, moment):
    best = None
    for number in speaking(stations, moment):
        square = square_of(station_wind(stations[number - 1], moment))
        if best is None or is_less(best[1], square):
            best = (number, square)
    return best


# The mean of the station's wind from one time to a later one; it must speak at both.
def mean_wind(station, start, end):
    moments = [start] + [sight.moment for sight in station.seen if start < sight.moment < end] + [end]
    east = whole(0)
    north = whole(0)
    for first, second in zip(moments, moments[1:]):
        # The wind goes evenly here, so half the sum of both ends is its mean.
        share = Ratio(second - first, 2 * (end - start))
        before = station_wind(station, whole(first))
        behind = station_wind(station, whole(second))
        east = add_ratios(east, multiply_ratios(share, add_ratios(before.east, behind.east)))
        north = add_ratios(north, multiply_ratios(share, add_ratios(before.north, behind.north)))
    return Wind(east, north)
