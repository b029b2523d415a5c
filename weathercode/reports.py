"""Weather reports: the calls."""

from weathercode.changes import take_trend, tell_trend, trend_numbers
from weathercode.figures import Figures, NotNumbers, insist
from weathercode.measures import CAVOK, degrees_of, moment_of, pressure_of, sight_of, station_of
from weathercode.measures import CAVOK_WORD, tell_degrees, tell_moment, tell_pressure, tell_sight, tell_station
from weathercode.sky import CLEAR_WORD, take_sky, tell_sky
from weathercode.views import views_at
from weathercode.weather import take_weather, tell_weather
from weathercode.wind import take_wind_and_sector, tell_wind_and_sector
from weathercode.words import Cursor, NotReport, demanded, words_of

MOST_BYTES = 400
MOST_NUMBERS = 256
MOST_MINUTES = 1440
LAST_MINUTE = 240
OUT_OF_BOUNDS = -22
NONE_BELOW = -61
NO_REPORT = -71


class Report:
    def __init__(self, station, moment, wind, sight, degrees, pressure, weather, sky, trend):
        self.station = station
        self.moment = moment
        self.wind = wind
        self.sight = sight
        self.degrees = degrees
        self.pressure = pressure
        self.weather = weather
        self.sky = sky
        self.trend = trend


def take_report(cursor):
    station = cursor.required(station_of)
    moment = cursor.required(moment_of)
    wind = take_wind_and_sector(cursor)
    sight = cursor.required(sight_of)
    weather = [0]
    sky = [0]
    if sight != CAVOK:
        weather = take_weather(cursor)
        sky = demanded(take_sky(cursor))
    degrees = cursor.required(degrees_of)
    pressure = cursor.required(pressure_of)
    trend = take_trend(cursor)
    if not cursor.at_end():
        raise NotReport("a word too many")
    return Report(station, moment, wind, sight, degrees, pressure, weather, sky, trend)


def report_numbers(report):
    head = report.station + report.moment + report.wind
    measured = [report.sight] + report.degrees + [report.pressure]
    return head + measured + report.weather + report.sky + trend_numbers(report.trend)


# Beside CAVOK the text has no word for them, so only the numbers of no weather and NSC fit.
def tell_weather_and_sky(figures, sight):
    weather = tell_weather(figures)
    sky = tell_sky(figures)
    if sight != [CAVOK_WORD]:
        return weather + sky
    insist(len(weather) == 0 and sky == [CLEAR_WORD])
    return []


def tell_report(figures):
    station = tell_station(figures)
    moment = tell_moment(figures)
    wind = tell_wind_and_sector(figures)
    sight = tell_sight(figures)
    degrees = tell_degrees(figures)
    pressure = tell_pressure(figures)
    weather_and_sky = tell_weather_and_sky(figures, sight)
    trend = tell_trend(figures)
    insist(figures.at_end())
    return station + moment + wind + sight + weather_and_sky + degrees + pressure + trend


# What is answered of the report that the text tells, or the refusal that is due.
def answer_of(t, teller):
    if len(t) > MOST_BYTES:
        return [OUT_OF_BOUNDS]
    try:
        report = take_report(Cursor(words_of(t)))
    except NotReport:
        return [NO_REPORT]
    return teller(report)


def counted_numbers(report):
    numbers = report_numbers(report)
    return [len(numbers)] + numbers


def least_at(report, minute):
    views = views_at(report, minute)
    return [0, min([view[0] for view in views]), min([view[1] for view in views])]


def first_below(report, sight, ceiling):
    for minute in range(LAST_MINUTE + 1):
        if any([view[0] < sight or view[1] < ceiling for view in views_at(report, minute)]):
            return [minute]
    return [NONE_BELOW]


def read(t):
    return answer_of(t, counted_numbers)


def write(r):
    if len(r) > MOST_NUMBERS:
        return [OUT_OF_BOUNDS]
    try:
        text = " ".join(tell_report(Figures(r))) + "="
    except NotNumbers:
        return [OUT_OF_BOUNDS]
    return [len(text)] + [ord(sign) for sign in text]


def least(minutes, t):
    if minutes > MOST_MINUTES:
        return [OUT_OF_BOUNDS]
    return answer_of(t, lambda report: least_at(report, minutes))


def first(sight, ceiling, t):
    return answer_of(t, lambda report: first_below(report, sight, ceiling))
