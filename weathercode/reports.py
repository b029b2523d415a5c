"""Weather reports: the calls."""

from weathercode.changes import take_trend
from weathercode.measures import CAVOK, degrees_of, moment_of, pressure_of, sight_of, station_of
from weathercode.sky import take_sky
from weathercode.weather import take_weather
from weathercode.wind import take_wind_and_sector
from weathercode.words import Cursor, NotReport, demanded, words_of

MOST_BYTES = 400
OUT_OF_BOUNDS = -22
NO_REPORT = -71


def take_report(cursor):
    station = cursor.required(station_of)
    moment = cursor.required(moment_of)
    wind = take_wind_and_sector(cursor)
    sight = cursor.required(sight_of)
    weather = [0]
    sky = [0]
    if sight != CAVOK:
        weather = take_weather(cursor)
        sky = demanded(take_sky(cursor))
    degrees = cursor.required(degrees_of)
    pressure = cursor.required(pressure_of)
    trend = take_trend(cursor)
    if not cursor.at_end():
        raise NotReport("a word too many")
    return station + moment + wind + [sight] + degrees + [pressure] + weather + sky + trend


def read(t):
    if len(t) > MOST_BYTES:
        return [OUT_OF_BOUNDS]
    try:
        numbers = take_report(Cursor(words_of(t)))
    except NotReport:
        return [NO_REPORT]
    return [len(numbers)] + numbers
