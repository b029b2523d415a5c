"""The wind and its sector."""

from weathercode.words import number_within

VARIABLE = 999
NO_SECTOR = 999


def direction_of(part):
    degrees = number_within(part, 3, 10, 360)
    return degrees if degrees is not None and degrees % 10 == 0 else None


def wind_degrees(part):
    if part == "VRB":
        return VARIABLE
    if part == "000":
        return 0
    return direction_of(part)


def gusts_of(part):
    if part == "":
        return 0
    if part[0] != "G":
        return None
    # Gusts are above a speed, so they are never 0: that number is free for none.
    return number_within(part[1:], 2, 1, 99)


def wind_fits(degrees, speed, gusts):
    if speed == 0:
        return degrees == 0 and gusts == 0
    return degrees != 0 and (gusts == 0 or gusts > speed)


def wind_of(word):
    if not word.endswith("KT"):
        return None
    body = word[:-2]
    degrees = wind_degrees(body[:3])
    speed = number_within(body[3:5], 2, 0, 99)
    gusts = gusts_of(body[5:])
    if degrees is None or speed is None or gusts is None:
        return None
    return [degrees, speed, gusts] if wind_fits(degrees, speed, gusts) else None


def sector_of(word):
    if len(word) != 7 or word[3] != "V":
        return None
    start = direction_of(word[:3])
    end = direction_of(word[4:])
    if start is None or end is None or start == end:
        return None
    return [start, end]


def take_wind_and_sector(cursor):
    wind = cursor.required(wind_of)
    sector = None
    if wind[0] != VARIABLE and wind[1] != 0:
        sector = cursor.optional(sector_of)
    if sector is None:
        sector = [NO_SECTOR, NO_SECTOR]
    return wind + sector
