"""Weather texts, read and written back."""

from windcourses.limits import FAR, LAST_TIME, MOST_STATIONS, STRONG
from windcourses.stations import Sight, Station, add_sight, is_full, saw_at
from windcourses.texts import bytes_of, is_name, is_readable, line_of, lines_of, read_within, words_of

COMMENT = 35


# What was read of a text; wrong_line is 0 while no line is wrong.
class Reading:
    def __init__(self):
        self.stations = []
        self.wrong_line = 0


def read_weather(text):
    reading = Reading()
    for number, line in enumerate(lines_of(text), start=1):
        if not take_line(reading.stations, line):
            reading.wrong_line = number
            return reading
    return reading


# Adds what the line tells; False if it is wrong.
def take_line(stations, line):
    if not is_readable(line):
        return False
    words = words_of(line)
    if len(words) == 0 or words[0][0] == COMMENT:
        return True
    if words[0] == bytes_of("station"):
        return take_station(stations, words)
    if words[0] == bytes_of("wind"):
        return take_wind(stations, words)
    return False


def take_station(stations, words):
    if len(words) != 4 or len(stations) >= MOST_STATIONS or not is_name(words[1]):
        return False
    x = read_within(words[2], -FAR, FAR)
    y = read_within(words[3], -FAR, FAR)
    if x is None or y is None:
        return False
    for station in stations:
        if station.name == words[1] or (station.x == x and station.y == y):
            return False
    stations.append(Station(words[1], x, y))
    return True


def take_wind(stations, words):
    if len(words) != 5:
        return False
    station = find_station(stations, words[1])
    moment = read_within(words[2], 0, LAST_TIME)
    east = read_within(words[3], -STRONG, STRONG)
    north = read_within(words[4], -STRONG, STRONG)
    if station is None or moment is None or east is None or north is None:
        return False
    if is_full(station) or saw_at(station, moment):
        return False
    add_sight(station, Sight(moment, east, north))
    return True


def find_station(stations, name):
    for station in stations:
        if station.name == name:
            return station
    return None


def write_weather(stations):
    written = []
    for station in stations:
        written.extend(write_station(station))
    for station in stations:
        for sight in station.seen:
            written.extend(write_sight(station, sight))
    return written


def write_station(station):
    return line_of([bytes_of("station"), station.name, bytes_of(str(station.x)), bytes_of(str(station.y))])


def write_sight(station, sight):
    numbers = [sight.moment, sight.east, sight.north]
    return line_of([bytes_of("wind"), station.name] + [bytes_of(str(number)) for number in numbers])
