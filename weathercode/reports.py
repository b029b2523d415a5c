"""Weather reports: the calls."""

from weathercode.changes import take_trend, tell_trend
from weathercode.figures import Figures, NotNumbers, insist
from weathercode.measures import CAVOK, degrees_of, moment_of, pressure_of, sight_of, station_of
from weathercode.measures import CAVOK_WORD, tell_degrees, tell_moment, tell_pressure, tell_sight, tell_station
from weathercode.sky import CLEAR_WORD, take_sky, tell_sky
from weathercode.weather import take_weather, tell_weather
from weathercode.wind import take_wind_and_sector, tell_wind_and_sector
from weathercode.words import Cursor, NotReport, demanded, words_of

MOST_BYTES = 400
MOST_NUMBERS = 256
OUT_OF_BOUNDS = -22
NO_REPORT = -71


def take_report(cursor):
    station = cursor.required(station_of)
    moment = cursor.required(moment_of)
    wind = take_wind_and_sector(cursor)
    sight = cursor.required(sight_of)
    weather = [0]
    sky = [0]
    if sight != CAVOK:
        weather = take_weather(cursor)
        sky = demanded(take_sky(cursor))
    degrees = cursor.required(degrees_of)
    pressure = cursor.required(pressure_of)
    trend = take_trend(cursor)
    if not cursor.at_end():
        raise NotReport("a word too many")
    return station + moment + wind + [sight] + degrees + [pressure] + weather + sky + trend


# Beside CAVOK the text has no word for them, so only the numbers of no weather and NSC fit.
def tell_weather_and_sky(figures, sight):
    weather = tell_weather(figures)
    sky = tell_sky(figures)
    if sight != [CAVOK_WORD]:
        return weather + sky
    insist(len(weather) == 0 and sky == [CLEAR_WORD])
    return []


def tell_report(figures):
    station = tell_station(figures)
    moment = tell_moment(figures)
    wind = tell_wind_and_sector(figures)
    sight = tell_sight(figures)
    degrees = tell_degrees(figures)
    pressure = tell_pressure(figures)
    weather_and_sky = tell_weather_and_sky(figures, sight)
    trend = tell_trend(figures)
    insist(figures.at_end())
    return station + moment + wind + sight + weather_and_sky + degrees + pressure + trend


def read(t):
    if len(t) > MOST_BYTES:
        return [OUT_OF_BOUNDS]
    try:
        numbers = take_report(Cursor(words_of(t)))
    except NotReport:
        return [NO_REPORT]
    return [len(numbers)] + numbers


def write(r):
    if len(r) > MOST_NUMBERS:
        return [OUT_OF_BOUNDS]
    try:
        text = " ".join(tell_report(Figures(r))) + "="
    except NotNumbers:
        return [OUT_OF_BOUNDS]
    return [len(text)] + [ord(sign) for sign in text]
