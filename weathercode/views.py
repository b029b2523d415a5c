"""What may come: views, each a sight and a ceiling, at a minute behind the report's time."""

from weathercode.changes import AT_TIMES
from weathercode.measures import CAVOK
from weathercode.sky import NO_CEILING, ceiling_of

MINUTES_OF_A_DAY = 1440
USUAL_LENGTH = 120
CAVOK_METRES = 9999


# A time of day ahead of the report's is the next day's.
def minutes_behind(moment, minutes_of_day):
    return (minutes_of_day - moment[1] * 60 - moment[2]) % MINUTES_OF_A_DAY


def beginning_of(change, moment):
    return 0 if change.begins is None else minutes_behind(moment, change.begins)


def end_of(change, moment):
    if change.ends is None:
        return beginning_of(change, moment) + USUAL_LENGTH
    return minutes_behind(moment, change.ends)


def told_view(report):
    metres = CAVOK_METRES if report.sight == CAVOK else report.sight
    return (metres, ceiling_of(report.sky))


def changed_view(view, change):
    if change.sight == CAVOK:
        return (CAVOK_METRES, NO_CEILING)
    metres = view[0] if change.sight is None else change.sight
    ceiling = view[1] if change.sky is None else ceiling_of(change.sky)
    return (metres, ceiling)


def views_at(report, minute):
    lasting = [told_view(report)]
    besides = []
    for change in report.trend.changes:
        if minute < beginning_of(change, report.moment):
            continue
        ended = minute > end_of(change, report.moment)
        changed = [changed_view(view, change) for view in lasting]
        if change.manner == AT_TIMES:
            # What was only at times leaves nothing behind.
            besides = besides if ended else besides + changed
        else:
            lasting = changed if ended else lasting + changed
    return lasting + besides
