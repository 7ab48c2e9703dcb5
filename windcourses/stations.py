"""Stations and the winds that they saw."""

from windcourses.limits import MOST_SIGHTS


# A wind that was seen at a time.
class Sight:
    def __init__(self, moment, east, north):
        self.moment = moment
        self.east = east
        self.north = north


# A station: its name's bytes, its place, and its sights by rising times.
class Station:
    def __init__(self, name, x, y):
        self.name = name
        self.x = x
        self.y = y
        self.seen = []


def saw_at(station, moment):
    for sight in station.seen:
        if sight.moment == moment:
            return True
    return False


def is_full(station):
    return len(station.seen) >= MOST_SIGHTS


def add_sight(station, sight):
    place = 0
    while place < len(station.seen) and station.seen[place].moment < sight.moment:
        place = place + 1
    station.seen.insert(place, sight)
