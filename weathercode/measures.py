"""Station, times, sight, degrees and pressure: each a word by itself."""

from weathercode.figures import digits, insist
from weathercode.words import number_within

LETTERS = "ABCDEFGHIJKLMNOPQRSTUVWXYZ"
CAVOK = 10000
CAVOK_WORD = "CAVOK"
FROM = "FM"
TILL = "TL"
MOST_DEGREES = 60
LEAST_PRESSURE = 850
MOST_PRESSURE = 1100


def station_of(word):
    if len(word) != 4 or not all([letter in LETTERS for letter in word]):
        return None
    return [ord(letter) for letter in word]


def clock_of(part):
    hour = number_within(part[:2], 2, 0, 23)
    minute = number_within(part[2:], 2, 0, 59)
    return None if hour is None or minute is None else [hour, minute]


def moment_of(word):
    if not word.endswith("Z"):
        return None
    day = number_within(word[:2], 2, 1, 31)
    clock = clock_of(word[2:-1])
    return None if day is None or clock is None else [day] + clock


def marked_minutes(word, mark):
    if not word.startswith(mark):
        return None
    clock = clock_of(word[len(mark):])
    return None if clock is None else clock[0] * 60 + clock[1]


def from_of(word):
    return marked_minutes(word, FROM)


def till_of(word):
    return marked_minutes(word, TILL)


def metres_fit(metres):
    if metres < 800:
        return metres % 50 == 0
    if metres < 5000:
        return metres % 100 == 0
    return metres == 9999 or (metres <= 9000 and metres % 1000 == 0)


def sight_of(word):
    if word == CAVOK_WORD:
        return CAVOK
    metres = number_within(word, 4, 0, 9999)
    return metres if metres is not None and metres_fit(metres) else None


def degree_of(part):
    if part.startswith("M"):
        below = number_within(part[1:], 2, 1, MOST_DEGREES)
        return None if below is None else -below
    return number_within(part, 2, 0, MOST_DEGREES)


def degrees_of(word):
    parts = word.split("/")
    if len(parts) != 2:
        return None
    upper = degree_of(parts[0])
    lower = degree_of(parts[1])
    if upper is None or lower is None or lower > upper:
        return None
    return [upper, lower]


def pressure_of(word):
    if not word.startswith("Q"):
        return None
    return number_within(word[1:], 4, LEAST_PRESSURE, MOST_PRESSURE)


def tell_station(figures):
    first = ord(LETTERS[0])
    last = ord(LETTERS[-1])
    return ["".join([LETTERS[figures.take(first, last) - first] for turn in range(4)])]


def tell_moment(figures):
    day = figures.take(1, 31)
    hour = figures.take(0, 23)
    minute = figures.take(0, 59)
    return [digits(day, 2) + digits(hour, 2) + digits(minute, 2) + "Z"]


def tell_marked_minutes(figures, mark):
    minutes = figures.take(0, 24 * 60 - 1)
    return [mark + digits(minutes // 60, 2) + digits(minutes % 60, 2)]


def tell_from(figures):
    return tell_marked_minutes(figures, FROM)


def tell_till(figures):
    return tell_marked_minutes(figures, TILL)


def tell_sight(figures):
    metres = figures.take(0, CAVOK)
    if metres == CAVOK:
        return [CAVOK_WORD]
    insist(metres_fit(metres))
    return [digits(metres, 4)]


def degree_text(degree):
    return "M" + digits(-degree, 2) if degree < 0 else digits(degree, 2)


def tell_degrees(figures):
    upper = figures.take(-MOST_DEGREES, MOST_DEGREES)
    lower = figures.take(-MOST_DEGREES, upper)
    return [degree_text(upper) + "/" + degree_text(lower)]


def tell_pressure(figures):
    return ["Q" + digits(figures.take(LEAST_PRESSURE, MOST_PRESSURE), 4)]
