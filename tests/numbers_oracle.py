"""Numbers told a second way: put into words without asking whether they fit, then judged as a text."""

from tests.oracle import CLOUDS, COVERS, KINDS, MANNERS, is_report
from tests.samples import bytes_of
from weathercode.reports import read

STRENGTHS = ["-", "", "+"]


def pick(words, rest):
    """The word at the next number's place, counted from 0; a number below 0 has none."""
    return dict(enumerate(words))[next(rest)]


def wind(rest):
    degrees, speed, gusts = next(rest), next(rest), next(rest)
    return ("VRB" if degrees == 999 else f"{degrees:03}") + f"{speed:02}" + (f"G{gusts:02}" if gusts else "") + "KT"


def sector(rest):
    one, other = next(rest), next(rest)
    return "" if one == other == 999 else f"{one:03}V{other:03}"


def degree(number):
    return f"M{-number:02}" if number < 0 else f"{number:02}"


def sight(metres):
    return "CAVOK" if metres == 10000 else f"{metres:04}"


def weather(rest, count):
    words = []
    for word in range(count):
        start = pick(STRENGTHS, rest) + pick(["", *MANNERS], rest)
        words.append(start + "".join(pick(["", *KINDS], rest) for kind in range(next(rest))))
    return words


def sky(rest, kind):
    if kind == 0:
        return ["NSC"]
    if kind == 1:
        return [f"VV{next(rest):03}"]
    if kind != 2:
        raise KeyError(kind)
    return [f"{pick(['', *COVERS], rest)}{next(rest):03}{pick(CLOUDS, rest)}" for layer in range(next(rest))]


def change(rest):
    words = [pick(["", "BECMG", "TEMPO"], rest)]
    for mark in ("FM", "TL"):
        minutes = next(rest)
        words += [] if minutes == -1 else [f"{mark}{minutes // 60:02}{minutes % 60:02}"]
    if pick([False, True], rest):
        words.append(wind(rest))
    metres = next(rest)
    words += [] if metres == -1 else [sight(metres)]
    count = next(rest)
    words += {-1: [], 0: ["NSW"]}[count] if count < 1 else weather(rest, count)
    kind = next(rest)
    return words + ([] if kind == -1 else sky(rest, kind))


def trend(rest):
    kind, count = next(rest), next(rest)
    words = {0: [], 1: ["NOSIG"], 2: []}[kind]
    for number in range(count):
        words = words + change(rest)
    return words


def words_of(rest):
    station = "".join(chr(next(rest)) for letter in range(4))
    moment = f"{next(rest):02}{next(rest):02}{next(rest):02}Z"
    blowing, spread = wind(rest), sector(rest)
    metres = next(rest)
    degrees = degree(next(rest)) + "/" + degree(next(rest))
    pressure = f"Q{next(rest):04}"
    seen = weather(rest, next(rest)) + sky(rest, next(rest))
    if metres == 10000:
        seen = []
    words = [station, moment, blowing, spread, sight(metres), *seen, degrees, pressure, *trend(rest)]
    return [word for word in words if word]


def text_told(numbers):
    """The text of these numbers, or None if they are not the numbers of a report."""
    try:
        text = " ".join(words_of(iter(numbers))) + "="
    except (KeyError, IndexError, StopIteration, RuntimeError, ValueError):
        return None
    # What the words don't show, such as a number too many, read shows.
    if not is_report(text) or read(bytes_of(text))[1:] != numbers:
        return None
    return text
