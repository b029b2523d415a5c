"""What may come, told a second way: from the words of a text, each way that the changes may go followed by itself."""

import re

from tests.oracle import SIGHTS, draw_sky, draw_weather_word, draw_wind
from tests.samples import text_of

DAY = 1440


def seen(words):
    """The sight and the ceiling that words tell; None for each that they don't tell."""
    if "CAVOK" in words:
        return 9999, 999
    sights = [int(word) for word in words if re.fullmatch("[0-9]{4}", word)]
    skies = [re.fullmatch("(NSC|VV|FEW|SCT|BKN|OVC)([0-9]*)(?:CB|TCU)?", word) for word in words]
    # Layers rise, so the first that counts is the lowest.
    heights = [int(sky[2]) for sky in skies if sky and sky[1] in ("VV", "BKN", "OVC")]
    return (sights[0] if sights else None), (min(heights, default=999) if any(skies) else None)


def wait(now, clock):
    """How many minutes pass from one time of day till it is the other for the first time."""
    return next(minutes for minutes in range(DAY) if divmod((now + minutes) % DAY, 60) == clock)


def time_told(words, mark, now):
    clocks = [(int(word[2:4]), int(word[4:])) for word in words if re.fullmatch(mark + "[0-9]{4}", word)]
    return wait(now, clocks[0]) if clocks else None


def changes_of(words, now):
    """Of each change: whether it is at times, its beginning and end, and what is seen."""
    starts = [place for place, word in enumerate(words) if word in ("BECMG", "TEMPO")] + [len(words)]
    changes = []
    for start, behind in zip(starts, starts[1:]):
        own = words[start:behind]
        begins = time_told(own, "FM", now) or 0
        ends = time_told(own, "TL", now)
        changes.append((own[0] == "TEMPO", begins, begins + 120 if ends is None else ends, seen(own)))
    return changes


def parts_of(text):
    """The report's own view, and its changes."""
    words = text[:-1].split(" ")
    own = words[2:next(place for place, word in enumerate(words) if re.fullmatch("Q[0-9]{4}", word))]
    return seen(own), changes_of(words, int(words[1][2:4]) * 60 + int(words[1][4:6]))


def ways(view, changes, minute):
    """The views that are reached from this one by the changes."""
    if not changes:
        return {view}
    at_times, begins, ends, told = changes[0]
    rest = changes[1:]
    other = tuple(old if new is None else new for old, new in zip(view, told))
    if minute < begins or (at_times and minute > ends):
        return ways(view, rest, minute)
    if at_times:
        return ways(view, rest, minute) | {other}
    if minute > ends:
        return ways(other, rest, minute)
    return ways(view, rest, minute) | ways(other, rest, minute)


def least_told(text, minute):
    view, changes = parts_of(text)
    return tuple(min(part) for part in zip(*ways(view, changes, minute)))


def edges(text):
    """The minutes at which something may begin or end, and those beside them."""
    times = {0, 120, 240, DAY}
    for at_times, begins, ends, told in parts_of(text)[1]:
        times |= {begins, ends}
    near = {time + step for time in times for step in (-1, 0, 1, 2)}
    return sorted(minute for minute in near if 0 <= minute <= DAY)


def draw_near_time(source, mark, now):
    if source.random() < 0.35:
        return []
    near = source.choice([0, 1, 239, 240, 241, *(source.randint(0, 260) for turn in range(5))])
    wait_minutes = near if source.random() < 0.9 else source.randint(0, DAY - 1)
    hour, minute = divmod((now + wait_minutes) % DAY, 60)
    return [f"{mark}{hour:02}{minute:02}"]


def draw_near_change(source, now):
    """A change, mostly of what is seen, that mostly begins and ends within some hours."""
    words = [source.choice(["BECMG", "TEMPO"]), *draw_near_time(source, "FM", now), *draw_near_time(source, "TL", now)]
    if source.random() < 0.1:
        return words + ["CAVOK"]
    wind = [draw_wind(source)[0]] if source.random() < 0.2 else []
    sight = [f"{source.choice(SIGHTS):04}"] if source.random() < 0.6 else []
    weather = [source.choice(["NSW", draw_weather_word(source)[0]])] if source.random() < 0.2 else []
    sky = draw_sky(source)[0] if source.random() < 0.6 else []
    return words + (wind + sight + weather + sky or ["NSW"])


def draw_near_report(source):
    """A report's text whose changes mostly begin and end within some hours."""
    now = source.choice([0, 1, DAY - 1, source.randint(1320, DAY - 1), source.randint(0, DAY - 1)])
    moment = f"16{now // 60:02}{now % 60:02}Z"
    changes = [" ".join(draw_near_change(source, now)) for change in range(source.randint(1, 3))]
    cavok = source.random() < 0.1
    sight = "CAVOK" if cavok else f"{source.choice(SIGHTS):04}"
    sky = "" if cavok else " ".join(draw_sky(source)[0])
    return text_of(moment=moment, sight=sight, sky=sky, trend=" ".join(changes))
