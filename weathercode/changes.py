"""What is about to change: nothing told, NOSIG, or changes."""

from weathercode.measures import CAVOK, from_of, sight_of, till_of
from weathercode.sky import take_sky
from weathercode.weather import changed_weather_of
from weathercode.wind import wind_of
from weathercode.words import NotReport

NOTHING_MORE = 0
NO_CHANGE = 1
CHANGES = 2
MANNERS_OF_CHANGE = ("BECMG", "TEMPO")
MOST_CHANGES = 3
NOT_TOLD = -1


def change_manner_of(word):
    return MANNERS_OF_CHANGE.index(word) + 1 if word in MANNERS_OF_CHANGE else None


def told_or_not(found):
    return NOT_TOLD if found is None else found


def list_or_not(found):
    return [NOT_TOLD] if found is None else found


def take_changed(cursor):
    wind = cursor.optional(wind_of)
    sight = cursor.optional(sight_of)
    weather = None
    sky = None
    if sight != CAVOK:
        weather = cursor.optional(changed_weather_of)
        sky = take_sky(cursor)
    if wind is None and sight is None and weather is None and sky is None:
        raise NotReport("a change of nothing")
    wind_numbers = [0] if wind is None else [1] + wind
    return wind_numbers + [told_or_not(sight)] + list_or_not(weather) + list_or_not(sky)


def take_change(cursor):
    manner = cursor.required(change_manner_of)
    begins = told_or_not(cursor.optional(from_of))
    ends = told_or_not(cursor.optional(till_of))
    return [manner, begins, ends] + take_changed(cursor)


def take_trend(cursor):
    if cursor.at_end():
        return [NOTHING_MORE, 0]
    if cursor.word() == "NOSIG":
        cursor.advance()
        return [NO_CHANGE, 0]
    count = 0
    numbers = []
    while count < MOST_CHANGES and not cursor.at_end():
        count += 1
        numbers.extend(take_change(cursor))
    return [CHANGES, count] + numbers
