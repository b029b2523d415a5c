"""Station, times, sight, degrees and pressure: each a word by itself."""

from weathercode.words import number_within

LETTERS = "ABCDEFGHIJKLMNOPQRSTUVWXYZ"
CAVOK = 10000


def station_of(word):
    if len(word) != 4 or not all([letter in LETTERS for letter in word]):
        return None
    return [ord(letter) for letter in word]


def clock_of(part):
    hour = number_within(part[:2], 2, 0, 23)
    minute = number_within(part[2:], 2, 0, 59)
    return None if hour is None or minute is None else [hour, minute]


def moment_of(word):
    if not word.endswith("Z"):
        return None
    day = number_within(word[:2], 2, 1, 31)
    clock = clock_of(word[2:-1])
    return None if day is None or clock is None else [day] + clock


def marked_minutes(word, mark):
    if not word.startswith(mark):
        return None
    clock = clock_of(word[len(mark):])
    return None if clock is None else clock[0] * 60 + clock[1]


def from_of(word):
    return marked_minutes(word, "FM")


def till_of(word):
    return marked_minutes(word, "TL")


def metres_fit(metres):
    if metres < 800:
        return metres % 50 == 0
    if metres < 5000:
        return metres % 100 == 0
    return metres == 9999 or (metres <= 9000 and metres % 1000 == 0)


def sight_of(word):
    if word == "CAVOK":
        return CAVOK
    metres = number_within(word, 4, 0, 9999)
    return metres if metres is not None and metres_fit(metres) else None


def degree_of(part):
    if part.startswith("M"):
        below = number_within(part[1:], 2, 1, 60)
        return None if below is None else -below
    return number_within(part, 2, 0, 60)


def degrees_of(word):
    parts = word.split("/")
    if len(parts) != 2:
        return None
    upper = degree_of(parts[0])
    lower = degree_of(parts[1])
    if upper is None or lower is None or lower > upper:
        return None
    return [upper, lower]


def pressure_of(word):
    if not word.startswith("Q"):
        return None
    return number_within(word[1:], 4, 850, 1100)
