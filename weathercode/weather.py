"""Words of weather: a strength, a manner and kinds."""

from weathercode.figures import insist

LIGHT = 0
NEITHER = 1
HEAVY = 2
STRENGTHS = ("-", "", "+")
MANNERS = ("MI", "BC", "PR", "DR", "BL", "SH", "TS", "FZ")
RAIN_KINDS = ("DZ", "RA", "SN", "SG", "PL", "GR", "GS")
OTHER_KINDS = ("BR", "FG", "FU", "VA", "DU", "SA", "HZ", "PO", "SQ", "FC", "SS", "DS")
NO_WEATHER_WORD = "NSW"
MOST_KINDS = 3
MOST_WORDS = 3


def all_rain(kinds):
    return all([kind in RAIN_KINDS for kind in kinds])


def kinds_fit(kinds):
    if len(kinds) > MOST_KINDS or len(set(kinds)) != len(kinds):
        return False
    return len(kinds) < 2 or all_rain(kinds)


def strength_fits(strength, kinds):
    return strength == NEITHER or (len(kinds) > 0 and kinds[0] in RAIN_KINDS)


# Only TS stands without a kind; that more than one are all rain's, kinds_fit sees to.
def manner_fits(manner, kinds):
    if manner == "TS":
        return all_rain(kinds)
    if len(kinds) == 0:
        return False
    if manner in ("MI", "BC", "PR"):
        return kinds == ["FG"]
    if manner in ("DR", "BL"):
        return len(kinds) == 1 and kinds[0] in ("SN", "DU", "SA")
    if manner == "SH":
        return all_rain(kinds) and "DZ" not in kinds
    if manner == "FZ":
        return kinds[0] in ("DZ", "RA") or kinds == ["FG"]
    return True


def weather_fits(strength, manner, kinds):
    return kinds_fit(kinds) and strength_fits(strength, kinds) and manner_fits(manner, kinds)


def strength_of(word):
    if word.startswith(STRENGTHS[LIGHT]):
        return LIGHT
    return HEAVY if word.startswith(STRENGTHS[HEAVY]) else NEITHER


def weather_numbers(strength, manner, kinds):
    all_kinds = RAIN_KINDS + OTHER_KINDS
    manner_number = 0 if manner == "" else MANNERS.index(manner) + 1
    return [strength, manner_number, len(kinds)] + [all_kinds.index(kind) + 1 for kind in kinds]


def weather_of(word):
    strength = strength_of(word)
    body = word if strength == NEITHER else word[1:]
    manner = body[:2] if body[:2] in MANNERS else ""
    rest = body[len(manner):]
    kinds = [rest[k:k + 2] for k in range(0, len(rest), 2)]
    if not all([kind in RAIN_KINDS or kind in OTHER_KINDS for kind in kinds]):
        return None
    if not weather_fits(strength, manner, kinds):
        return None
    return weather_numbers(strength, manner, kinds)


def take_weather(cursor):
    count = 0
    numbers = []
    found = cursor.optional(weather_of)
    while found is not None:
        count += 1
        numbers.extend(found)
        found = cursor.optional(weather_of) if count < MOST_WORDS else None
    return [count] + numbers


def changed_weather_of(word):
    if word == NO_WEATHER_WORD:
        return [0]
    found = weather_of(word)
    return None if found is None else [1] + found


def tell_weather_word(figures):
    strength = figures.take(LIGHT, HEAVY)
    manner_number = figures.take(0, len(MANNERS))
    manner = "" if manner_number == 0 else MANNERS[manner_number - 1]
    all_kinds = RAIN_KINDS + OTHER_KINDS
    count = figures.take(0, MOST_KINDS)
    kinds = [all_kinds[figures.take(1, len(all_kinds)) - 1] for turn in range(count)]
    insist(weather_fits(strength, manner, kinds))
    return STRENGTHS[strength] + manner + "".join(kinds)


def tell_weather(figures):
    count = figures.take(0, MOST_WORDS)
    return [tell_weather_word(figures) for turn in range(count)]


def tell_changed_weather(figures):
    count = figures.take(0, 1)
    return [NO_WEATHER_WORD] if count == 0 else [tell_weather_word(figures)]
