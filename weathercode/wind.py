"""The wind and its sector."""

from weathercode.figures import digits, insist
from weathercode.words import number_within

VARIABLE = 999
NO_SECTOR = 999
MOST_SPEED = 99


def direction_fits(degrees):
    return 10 <= degrees <= 360 and degrees % 10 == 0


def direction_of(part):
    degrees = number_within(part, 3, 0, 999)
    return degrees if degrees is not None and direction_fits(degrees) else None


def wind_degrees(part):
    if part == "VRB":
        return VARIABLE
    if part == "000":
        return 0
    return direction_of(part)


def gusts_of(part):
    if part == "":
        return 0
    if part[0] != "G":
        return None
    # Gusts are above a speed, so they are never 0: that number is free for none.
    return number_within(part[1:], 2, 1, MOST_SPEED)


def wind_fits(degrees, speed, gusts):
    if speed == 0:
        return degrees == 0 and gusts == 0
    return degrees != 0 and (gusts == 0 or gusts > speed)


def wind_of(word):
    if not word.endswith("KT"):
        return None
    body = word[:-2]
    degrees = wind_degrees(body[:3])
    speed = number_within(body[3:5], 2, 0, MOST_SPEED)
    gusts = gusts_of(body[5:])
    if degrees is None or speed is None or gusts is None:
        return None
    return [degrees, speed, gusts] if wind_fits(degrees, speed, gusts) else None


def may_have_sector(wind):
    return wind[0] != VARIABLE and wind[1] != 0


def sector_of(word):
    if len(word) != 7 or word[3] != "V":
        return None
    start = direction_of(word[:3])
    end = direction_of(word[4:])
    if start is None or end is None or start == end:
        return None
    return [start, end]


def take_wind_and_sector(cursor):
    wind = cursor.required(wind_of)
    sector = None
    if may_have_sector(wind):
        sector = cursor.optional(sector_of)
    if sector is None:
        sector = [NO_SECTOR, NO_SECTOR]
    return wind + sector


# The numbers of a wind, seen to fit together.
def fitting_wind(figures):
    degrees = figures.take(0, VARIABLE)
    insist(degrees == 0 or degrees == VARIABLE or direction_fits(degrees))
    speed = figures.take(0, MOST_SPEED)
    gusts = figures.take(0, MOST_SPEED)
    insist(wind_fits(degrees, speed, gusts))
    return [degrees, speed, gusts]


def wind_text(wind):
    degrees = "VRB" if wind[0] == VARIABLE else digits(wind[0], 3)
    gusts = "" if wind[2] == 0 else "G" + digits(wind[2], 2)
    return degrees + digits(wind[1], 2) + gusts + "KT"


def tell_wind(figures):
    return [wind_text(fitting_wind(figures))]


def tell_sector(figures, wind):
    start = figures.take(0, NO_SECTOR)
    end = figures.take(0, NO_SECTOR)
    if start == NO_SECTOR and end == NO_SECTOR:
        return []
    insist(may_have_sector(wind) and start != end)
    insist(direction_fits(start) and direction_fits(end))
    return [digits(start, 3) + "V" + digits(end, 3)]


def tell_wind_and_sector(figures):
    wind = fitting_wind(figures)
    return [wind_text(wind)] + tell_sector(figures, wind)
