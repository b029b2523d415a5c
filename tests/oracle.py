"""Reports told a second way: one pattern for the whole text, and reports drawn with their numbers."""

import itertools
import re

MANNERS = "MI BC PR DR BL SH TS FZ".split()
RAIN = "DZ RA SN SG PL GR GS".split()
KINDS = RAIN + "BR FG FU VA DU SA HZ PO SQ FC SS DS".split()
COVERS = "FEW SCT BKN OVC".split()
CLOUDS = ["", "CB", "TCU"]


def rain_runs(kinds):
    """One to three different ones of these kinds, in every order."""
    return [run for size in (1, 2, 3) for run in itertools.permutations(kinds, size)]


def kind_runs():
    """For each manner (none first) the runs of kinds that it stands with."""
    fog = [("FG",)]
    drifting = [("SN",), ("DU",), ("SA",)]
    rain = rain_runs(RAIN)
    return [rain + [(kind,) for kind in KINDS if kind not in RAIN],
            fog, fog, fog, drifting, drifting,
            [run for run in rain if "DZ" not in run],
            [()] + rain,
            [run for run in rain if run[0] in ("DZ", "RA")] + fog]


def weather_words():
    """Every word of weather there is, with its numbers."""
    words = {}
    for manner, runs in enumerate(kind_runs()):
        for run in runs:
            body = ([""] + MANNERS)[manner] + "".join(run)
            tail = [manner, len(run), *(KINDS.index(kind) + 1 for kind in run)]
            words[body] = [1, *tail]
            if run and run[0] in RAIN:
                words["-" + body] = [0, *tail]
                words["+" + body] = [2, *tail]
    return words


WEATHER = weather_words()
DIRECTIONS = [f"{degrees:03}" for degrees in range(10, 361, 10)]
SIGHTS = [*range(0, 800, 50), *range(800, 5000, 100), *range(5000, 9001, 1000), 9999]


def either(words):
    return "(?:" + "|".join(re.escape(word) for word in words) + ")"


def report_pattern():
    direction = either(DIRECTIONS)
    steady = "|".join(f"{speed:02}(?:G{either(f'{g:02}' for g in range(speed + 1, 100))})?" for speed in range(1, 99))
    speed = f"(?:{steady}|99)"
    known = f"{direction}{speed}KT"
    other = f"(?:VRB{speed}KT|00000KT)"
    sector = " (?:" + "|".join(f"{one}V{either(d for d in DIRECTIONS if d != one)}" for one in DIRECTIONS) + ")"
    sight = either(f"{metres:04}" for metres in SIGHTS)
    weather = either(sorted(WEATHER, key=len, reverse=True))
    height = "(?:[0-2][0-9][0-9]|300)"
    layers = f"(?:(?:FEW|SCT|BKN){height}(?:CB|TCU)? ){{0,3}}(?:FEW|SCT|BKN|OVC){height}(?:CB|TCU)?"
    sky = f"(?:NSC|VV(?:0[0-9][0-9]|100)|{layers})"
    clock = "(?:[01][0-9]|2[0-3])[0-5][0-9]"
    degree = "(?:[0-5][0-9]|60|M(?:0[1-9]|[1-5][0-9]|60))"
    seen = f"(?: CAVOK|(?: {sight})?(?: {weather}| NSW)?(?: {sky})?)"
    change = f" (?:BECMG|TEMPO)(?: FM{clock})?(?: TL{clock})?(?= (?!BECMG|TEMPO))(?: (?:{known}|{other}))?{seen}"
    return re.compile(
        f"[A-Z]{{4}} (?:0[1-9]|[12][0-9]|3[01]){clock}Z (?:{known}(?:{sector})?|{other})"
        f" (?:CAVOK|{sight}(?: {weather}){{0,3}} {sky}) (?P<degrees>{degree}/{degree})"
        f" Q(?:08[5-9][0-9]|09[0-9][0-9]|10[0-9][0-9]|1100)(?: NOSIG|(?:{change}){{0,3}})=", re.ASCII)


PATTERN = report_pattern()


def heights_rise(text):
    for group in re.findall("(?:(?:FEW|SCT|BKN|OVC)[0-9]{3}(?:CB|TCU)?[ =])+", text):
        heights = [int(height) for height in re.findall("[0-9]{3}", group)]
        if heights != sorted(heights):
            return False
    return True


def is_report(text):
    found = PATTERN.fullmatch(text)
    if found is None or not heights_rise(text):
        return False
    upper, lower = (int(degree.replace("M", "-")) for degree in found["degrees"].split("/"))
    return lower <= upper


def draw_wind(source):
    if source.random() < 0.2:
        return "00000KT", [0, 0, 0]
    degrees = source.choice(DIRECTIONS + ["VRB"] * 6)
    speed = source.randint(1, 99)
    gusts = source.randint(speed + 1, 99) if speed < 99 and source.random() < 0.5 else 0
    text = f"{degrees}{speed:02}" + (f"G{gusts:02}" if gusts else "") + "KT"
    return text, [999 if degrees == "VRB" else int(degrees), speed, gusts]


def draw_sector(source, wind):
    if wind[0] in (0, 999) or source.random() < 0.5:
        return [], [999, 999]
    one, other = source.sample(DIRECTIONS, 2)
    return [f"{one}V{other}"], [int(one), int(other)]


def draw_weather_word(source):
    word = source.choice(sorted(WEATHER)) if source.random() < 0.5 else source.choice(["TS", "FZFG", "BR", "-RA", "DU"])
    return word, WEATHER[word]


def draw_sky(source):
    kind = source.randint(0, 3)
    if kind == 0:
        return ["NSC"], [0]
    if kind == 1:
        hundreds = source.choice([0, 100, source.randint(0, 100)])
        return [f"VV{hundreds:03}"], [1, hundreds]
    count = source.randint(1, 4)
    heights = sorted(source.choice([0, 10, 10, 300, source.randint(0, 300)]) for layer in range(count))
    words, numbers = [], [2, count]
    for place, height in enumerate(heights):
        cover = source.randint(0, 3 if place == count - 1 else 2)
        cloud = source.randint(0, 2)
        words.append(f"{COVERS[cover]}{height:03}{CLOUDS[cloud]}")
        numbers += [cover + 1, height, cloud]
    return words, numbers


def draw_clock(source, mark):
    if source.random() < 0.5:
        return [], -1
    minutes = source.choice([0, 1439, source.randint(0, 1439)])
    return [f"{mark}{minutes // 60:02}{minutes % 60:02}"], minutes


def draw_change(source):
    manner = source.randint(1, 2)
    begins, begin_minutes = draw_clock(source, "FM")
    ends, end_minutes = draw_clock(source, "TL")
    words = [["BECMG", "TEMPO"][manner - 1], *begins, *ends]
    numbers = [manner, begin_minutes, end_minutes]
    told = source.choice([(a, b, c, d) for a in (0, 1) for b in (0, 1, 2) for c in (0, 1, 2) for d in (0, 1)
                          if (a or b or c or d) and not (b == 2 and (c or d))])
    wind, wind_numbers = draw_wind(source)
    words += [wind] * told[0]
    numbers += [1, *wind_numbers] if told[0] else [0]
    metres = source.choice(SIGHTS)
    words += [[], [f"{metres:04}"], ["CAVOK"]][told[1]]
    numbers.append([-1, metres, 10000][told[1]])
    word, word_numbers = draw_weather_word(source)
    words += [[], [word], ["NSW"]][told[2]]
    numbers += [[-1], [1, *word_numbers], [0]][told[2]]
    sky, sky_numbers = draw_sky(source)
    words += sky * told[3]
    numbers += sky_numbers if told[3] else [-1]
    return words, numbers


def draw_trend(source):
    kind = source.randint(0, 3)
    if kind < 2:
        return [[], ["NOSIG"]][kind], [kind, 0]
    count = source.randint(1, 3)
    words, numbers = [], [2, count]
    for change in range(count):
        more_words, more_numbers = draw_change(source)
        words += more_words
        numbers += more_numbers
    return words, numbers


def draw_seen(source):
    """Sight, weather and sky."""
    if source.random() < 0.2:
        return ["CAVOK"], 10000, [0], [0]
    metres = source.choice(SIGHTS)
    drawn = [draw_weather_word(source) for word in range(source.randint(0, 3))]
    sky, sky_numbers = draw_sky(source)
    weather = [len(drawn)] + [number for word, numbers in drawn for number in numbers]
    return [f"{metres:04}", *(word for word, numbers in drawn), *sky], metres, weather, sky_numbers


def draw_report(source):
    """A report's text, and its numbers."""
    station = "".join(source.choice("ABKLMQTVZ") for letter in range(4))
    day, hour, minute = source.randint(1, 31), source.randint(0, 23), source.randint(0, 59)
    wind, wind_numbers = draw_wind(source)
    sector, sector_numbers = draw_sector(source, wind_numbers)
    seen, sight, weather, sky = draw_seen(source)
    lower, upper = sorted(source.choice([-1, 0, 0, source.randint(-60, 60)]) for degree in range(2))
    pressure = source.choice([850, 1100, source.randint(850, 1100)])
    trend, trend_numbers = draw_trend(source)
    degrees = "/".join(f"M{-degree:02}" if degree < 0 else f"{degree:02}" for degree in (upper, lower))
    words = [station, f"{day:02}{hour:02}{minute:02}Z", wind, *sector, *seen, degrees, f"Q{pressure:04}", *trend]
    numbers = [*station.encode(), day, hour, minute, *wind_numbers, *sector_numbers, sight, upper, lower, pressure,
               *weather, *sky, *trend_numbers]
    return " ".join(words) + "=", numbers
