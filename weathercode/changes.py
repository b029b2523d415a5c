"""What is about to change: nothing told, NOSIG, or changes."""

from weathercode.figures import insist
from weathercode.measures import CAVOK, CAVOK_WORD, from_of, sight_of, tell_from, tell_sight, tell_till, till_of
from weathercode.sky import take_sky, tell_sky
from weathercode.weather import changed_weather_of, tell_changed_weather
from weathercode.wind import tell_wind, wind_of
from weathercode.words import NotReport

NOTHING_MORE = 0
NO_CHANGE = 1
NO_CHANGE_WORD = "NOSIG"
CHANGES = 2
MANNERS_OF_CHANGE = ("BECMG", "TEMPO")
AT_TIMES = 2
MOST_CHANGES = 3
NOT_TOLD = -1


def change_manner_of(word):
    return MANNERS_OF_CHANGE.index(word) + 1 if word in MANNERS_OF_CHANGE else None


def told_or_not(found):
    return NOT_TOLD if found is None else found


def list_or_not(found):
    return [NOT_TOLD] if found is None else found


class Change:
    def __init__(self, manner, begins, ends, wind, sight, weather, sky):
        self.manner = manner
        self.begins = begins
        self.ends = ends
        self.wind = wind
        self.sight = sight
        self.weather = weather
        self.sky = sky


class Trend:
    def __init__(self, kind, changes):
        self.kind = kind
        self.changes = changes


def take_change(cursor):
    manner = cursor.required(change_manner_of)
    begins = cursor.optional(from_of)
    ends = cursor.optional(till_of)
    wind = cursor.optional(wind_of)
    sight = cursor.optional(sight_of)
    weather = None
    sky = None
    if sight != CAVOK:
        weather = cursor.optional(changed_weather_of)
        sky = take_sky(cursor)
    if wind is None and sight is None and weather is None and sky is None:
        raise NotReport("a change of nothing")
    return Change(manner, begins, ends, wind, sight, weather, sky)


def take_trend(cursor):
    if cursor.at_end():
        return Trend(NOTHING_MORE, [])
    if cursor.word() == NO_CHANGE_WORD:
        cursor.advance()
        return Trend(NO_CHANGE, [])
    changes = []
    while len(changes) < MOST_CHANGES and not cursor.at_end():
        changes.append(take_change(cursor))
    return Trend(CHANGES, changes)


def change_numbers(change):
    times = [told_or_not(change.begins), told_or_not(change.ends)]
    wind = [0] if change.wind is None else [1] + change.wind
    seen = [told_or_not(change.sight)] + list_or_not(change.weather) + list_or_not(change.sky)
    return [change.manner] + times + wind + seen


def trend_numbers(trend):
    numbers = [trend.kind, len(trend.changes)]
    for change in trend.changes:
        numbers.extend(change_numbers(change))
    return numbers


def told_if_any(figures, teller):
    return [] if figures.passes(NOT_TOLD) else teller(figures)


def tell_changed_wind(figures):
    return [] if figures.take(0, 1) == 0 else tell_wind(figures)


def tell_changed(figures):
    wind = tell_changed_wind(figures)
    sight = told_if_any(figures, tell_sight)
    weather = told_if_any(figures, tell_changed_weather)
    sky = told_if_any(figures, tell_sky)
    insist(sight != [CAVOK_WORD] or len(weather + sky) == 0)
    words = wind + sight + weather + sky
    insist(len(words) > 0)
    return words


def tell_change(figures):
    manner = figures.take(1, len(MANNERS_OF_CHANGE))
    begins = told_if_any(figures, tell_from)
    ends = told_if_any(figures, tell_till)
    return [MANNERS_OF_CHANGE[manner - 1]] + begins + ends + tell_changed(figures)


def tell_changes(figures):
    words = []
    count = figures.take(1, MOST_CHANGES)
    for turn in range(count):
        words.extend(tell_change(figures))
    return words


def tell_trend(figures):
    kind = figures.take(NOTHING_MORE, CHANGES)
    if kind == CHANGES:
        return tell_changes(figures)
    figures.take(0, 0)
    return [] if kind == NOTHING_MORE else [NO_CHANGE_WORD]
