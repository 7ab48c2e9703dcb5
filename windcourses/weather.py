"""The calls on one list: each is taken apart, carried out and answered in numbers."""

from windcourses.air import heading_of, is_calm, mean_wind, speaking, station_wind, strongest_at, wind_at
from windcourses.limits import FARTHEST_END, FAST, LONGEST_LINE, MOST_BYTES, MOST_SECONDS, MOST_VELOCITIES, STEEPEST
from windcourses.limits import all_within, are_places, are_strengths, are_times
from windcourses.ratio import tell_ratio, whole
from windcourses.reports import read_weather, write_weather
from windcourses.sailing import compare_times, course_moments, least_repeats, way_time
from windcourses.stations import Sight, add_sight, is_full, saw_at
from windcourses.turning import across, along, is_turned_beyond, lead_against, lead_square, port_end
from windcourses.turning import sign_code, sine_square

NO_STATION = -2
NO_ROOM = -4
SEEN_ALREADY = -5
NO_WIND = -6
NEVER = -7
TOO_LONG = -8
WRONG_LIST = -9
OUT_OF_RANGE = -10
TOO_FAR = -11
WRONG_TEXT = -1000


# What the calls on one list have made: the stations and the table (empty where there is none).
class Sea:
    def __init__(self):
        self.stations = []
        self.table = []


# A call taken apart; behind is where the next one begins.
class Call:
    def __init__(self, number, numbers, row, behind):
        self.number = number
        self.numbers = numbers
        self.row = row
        self.behind = behind


def pairs_of(row):
    return [(row[place], row[place + 1]) for place in range(0, len(row), 2)]


def load(sea, numbers, row):
    if len(row) > MOST_BYTES:
        return [TOO_LONG]
    reading = read_weather(row)
    if reading.wrong_line > 0:
        return [WRONG_TEXT - reading.wrong_line]
    sea.stations = reading.stations
    return [len(sea.stations), sum([len(station.seen) for station in sea.stations])]


def printed(sea, numbers, row):
    return write_weather(sea.stations)


def is_station(sea, number):
    return 1 <= number <= len(sea.stations)


def observe(sea, numbers, row):
    if not is_station(sea, numbers[0]):
        return [NO_STATION]
    if not are_times(numbers[1:2]) or not are_strengths(numbers[2:]):
        return [OUT_OF_RANGE]
    station = sea.stations[numbers[0] - 1]
    if saw_at(station, numbers[1]):
        return [SEEN_ALREADY]
    if is_full(station):
        return [NO_ROOM]
    add_sight(station, Sight(numbers[1], numbers[2], numbers[3]))
    return [len(station.seen)]


# The wind at the place and the time with which the numbers begin, or None.
def wind_there(sea, numbers):
    return wind_at(sea.stations, numbers[0], numbers[1], whole(numbers[2]))


def tell_wind(sea, numbers, row):
    if not are_places(numbers[:2]) or not are_times(numbers[2:]):
        return [OUT_OF_RANGE]
    wind = wind_there(sea, numbers)
    if wind is None:
        return [NO_WIND]
    return tell_ratio(wind.east) + tell_ratio(wind.north)


def speak(sea, numbers, row):
    if not are_times(numbers):
        return [OUT_OF_RANGE]
    speakers = speaking(sea.stations, whole(numbers[0]))
    return [len(speakers)] + speakers


def is_table(row):
    if len(row) % 2 != 0 or len(row) < 2 or len(row) > 2 * MOST_VELOCITIES:
        return False
    return all_within(row, -FAST, FAST)


def lay_table(sea, numbers, row):
    if not is_table(row):
        return [WRONG_LIST]
    sea.table = pairs_of(row)
    return [len(sea.table)]


# Whether x, y, t, dx, dy, with which the numbers begin, are in their ranges.
def is_way_in_range(numbers):
    return are_places(numbers[:2]) and are_times(numbers[2:3]) and are_places(numbers[3:5])


def tell_time(sea, numbers, row):
    if not is_way_in_range(numbers):
        return [OUT_OF_RANGE]
    wind = wind_there(sea, numbers)
    if wind is None:
        return [NO_WIND]
    lasts = way_time(sea.table, wind, numbers[3], numbers[4])
    if lasts is None:
        return [NEVER]
    return tell_ratio(lasts)


def is_course(row):
    return len(row) in (4, 6) and are_places(row)


def course(sea, numbers, row):
    if not are_times(numbers):
        return [OUT_OF_RANGE]
    if not is_course(row):
        return [WRONG_LIST]
    done = course_moments(sea.stations, sea.table, numbers[0], pairs_of(row))
    answer = [len(done)]
    for moment in done:
        answer.extend(tell_ratio(moment))
    return answer


def set_leg(sea, numbers, row):
    if not is_way_in_range(numbers) or not all_within(numbers[5:], 0, MOST_SECONDS):
        return [OUT_OF_RANGE]
    wind = wind_there(sea, numbers)
    if wind is None:
        return [NO_WIND]
    lasts = way_time(sea.table, wind, numbers[3], numbers[4])
    if lasts is None:
        return [NEVER]
    repeats = least_repeats(lasts, numbers[5])
    if repeats is None:
        return [NEVER]
    return [repeats]


# The refusal that is due when one goes by the directions of these winds, or 0.
def refusal_by(winds):
    for wind in winds:
        if wind is None:
            return NO_WIND
    for wind in winds:
        if is_calm(wind):
            return NEVER
    return 0


def lay_line(sea, numbers, row):
    if not are_places(numbers[:2]) or not are_times(numbers[2:3]) or not all_within(numbers[3:], 1, LONGEST_LINE):
        return [OUT_OF_RANGE]
    wind = wind_there(sea, numbers)
    refusal = refusal_by([wind])
    if refusal != 0:
        return [refusal]
    end = port_end(heading_of(wind), (numbers[0], numbers[1]), numbers[3])
    if not all_within(end, -FARTHEST_END, FARTHEST_END):
        return [TOO_FAR]
    return [1, end[0], end[1]]


def bias(sea, numbers, row):
    if not are_places(numbers[:4]) or not are_times(numbers[4:]):
        return [OUT_OF_RANGE]
    wind = wind_there(sea, [numbers[0], numbers[1], numbers[4]])
    refusal = refusal_by([wind])
    if refusal != 0:
        return [refusal]
    heading = heading_of(wind)
    lead = lead_against(heading, (numbers[0], numbers[1]), (numbers[2], numbers[3]))
    return [sign_code(lead)] + tell_ratio(lead_square(heading, lead))


# The winds at the place x, y at the times t and s, with which the numbers begin.
def both_winds(sea, numbers):
    return [wind_there(sea, numbers), wind_there(sea, [numbers[0], numbers[1], numbers[3]])]


def shift(sea, numbers, row):
    if not are_places(numbers[:2]) or not are_times(numbers[2:]):
        return [OUT_OF_RANGE]
    winds = both_winds(sea, numbers)
    refusal = refusal_by(winds)
    if refusal != 0:
        return [refusal]
    first = heading_of(winds[0])
    second = heading_of(winds[1])
    turns = [sign_code(across(first, second)), sign_code(along(first, second))]
    return turns + tell_ratio(sine_square(first, second))


# Whether p and q are in their ranges.
def is_tangent(numbers):
    return all_within(numbers[:1], 0, STEEPEST) and all_within(numbers[1:], 1, STEEPEST)


def turned(sea, numbers, row):
    if not are_places(numbers[:2]) or not are_times(numbers[2:4]) or not is_tangent(numbers[4:]):
        return [OUT_OF_RANGE]
    winds = both_winds(sea, numbers)
    refusal = refusal_by(winds)
    if refusal != 0:
        return [refusal]
    if is_turned_beyond(heading_of(winds[0]), heading_of(winds[1]), numbers[4], numbers[5]):
        return [1]
    return [0]


def strongest(sea, numbers, row):
    if not are_times(numbers):
        return [OUT_OF_RANGE]
    best = strongest_at(sea.stations, whole(numbers[0]))
    if best is None:
        return [NO_WIND]
    return [best[0]] + tell_ratio(best[1])


def mean(sea, numbers, row):
    if not is_station(sea, numbers[0]):
        return [NO_STATION]
    if not are_times(numbers[1:]) or numbers[2] <= numbers[1]:
        return [OUT_OF_RANGE]
    station = sea.stations[numbers[0] - 1]
    for moment in numbers[1:]:
        if station_wind(station, whole(moment)) is None:
            return [NO_WIND]
    wind = mean_wind(station, numbers[1], numbers[2])
    return tell_ratio(wind.east) + tell_ratio(wind.north)


def between(sea, numbers, row):
    if not is_way_in_range(numbers):
        return [OUT_OF_RANGE]
    if not is_table(row):
        return [WRONG_LIST]
    wind = wind_there(sea, numbers)
    if wind is None:
        return [NO_WIND]
    by_ours = way_time(sea.table, wind, numbers[3], numbers[4])
    by_this = way_time(pairs_of(row), wind, numbers[3], numbers[4])
    return [compare_times(by_ours, by_this)]


def list_stations(sea, numbers, row):
    answer = [len(sea.stations)]
    for station in sea.stations:
        answer.extend([station.x, station.y, len(station.seen)])
    return answer


# By the calls' numbers: what carries it out, how many whole numbers it has, and which have a row.
HANDLERS = (load, printed, observe, tell_wind, speak, lay_table, tell_time, course, set_leg,
            lay_line, bias, shift, turned, strongest, mean, between, list_stations)
SIZES = (0, 0, 4, 3, 1, 0, 5, 1, 6, 4, 5, 4, 6, 1, 3, 5, 0)
WITH_ROW = (0, 5, 7, 15)


def take_call(calls, place):
    number = calls[place]
    behind = place + 1 + SIZES[number]
    numbers = calls[place + 1:behind]
    if number not in WITH_ROW:
        return Call(number, numbers, [], behind)
    row_end = behind + 1 + calls[behind]
    return Call(number, numbers, calls[behind + 1:row_end], row_end)


def answers(calls):
    sea = Sea()
    told = []
    place = 0
    while place < len(calls):
        call = take_call(calls, place)
        answer = HANDLERS[call.number](sea, call.numbers, call.row)
        told.append(len(answer))
        told.extend(answer)
        place = call.behind
    return told
