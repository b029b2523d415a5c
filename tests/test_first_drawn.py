"""first beside least, and beside a second way of telling what may come, for drawn reports."""

import random
import unittest

from tests.faults import with_a_fault
from tests.oracle import draw_report, is_report
from tests.samples import bytes_of
from tests.views_oracle import draw_near_report, parts_of, ways
from weathercode.reports import first, least, read, write

MINUTES = range(241)
FAR = (0, 1, 9998, 9999, 10000, 998, 999, 1000, 4294967295)


def bound_near(source, views, part):
    """A sight (part 0) or a ceiling (part 1) that is asked: mostly one that comes only later, or one more."""
    own = min(view[part] for view in views[0])
    later = sorted({view[part] for there in views for view in there if view[part] < own})
    near = [number + step for number in later for step in (0, 1)]
    return source.choice(near if near and source.random() < 0.7 else [own, own + 1, max(own - 1, 0), *FAR])


def pairs_near(source, views, count):
    """Pairs of a sight and a ceiling that are asked; of each minute there is a set of views."""
    pairs = [(bound_near(source, views, 0), bound_near(source, views, 1)) for turn in range(count)]
    return pairs + [(one, 0) for one, other in pairs] + [(0, other) for one, other in pairs]


def first_of(views, sight, ceiling):
    """Of a set of views for each minute: the first minute with one that is below."""
    below = (minute for minute, there in enumerate(views) if any(a < sight or b < ceiling for a, b in there))
    return next(below, -61)


class BesideTheSecondTelling(unittest.TestCase):
    def tells_first(self, source, text):
        view, changes = parts_of(text)
        views = [ways(view, changes, minute) for minute in MINUTES]
        found = set()
        for sight, ceiling in pairs_near(source, views, 4):
            minute = first_of(views, sight, ceiling)
            self.assertEqual(first(sight, ceiling, bytes_of(text)), [minute], (sight, ceiling, text))
            found.add(minute)
        return found

    def test_drawn_reports(self):
        source = random.Random(21)
        for turn in range(150):
            self.tells_first(source, draw_report(source)[0])

    def test_drawn_reports_with_changes_within_some_hours(self):
        source = random.Random(22)
        found = set()
        for turn in range(500):
            found |= self.tells_first(source, draw_near_report(source))
        self.assertLessEqual({-61, 0, 1, 239, 240}, found)
        self.assertGreater(len(found), 60)

    def test_texts_with_a_fault(self):
        source = random.Random(23)
        refused = 0
        for turn in range(2000):
            text = with_a_fault(source, draw_near_report(source))
            answer = first(source.choice(FAR), source.choice(FAR), bytes_of(text))
            self.assertEqual(answer == [-71], not is_report(text), text)
            refused += answer == [-71]
        self.assertGreater(refused, 700)


class BesideLeast(unittest.TestCase):
    def test_first_is_the_first_minute_at_which_least_is_below(self):
        source = random.Random(24)
        for turn in range(120):
            text = draw_near_report(source) if turn % 4 else draw_report(source)[0]
            answers = [least(minute, bytes_of(text)) for minute in MINUTES]
            self.assertEqual({answer[0] for answer in answers}, {0})
            views = [{tuple(answer[1:])} for answer in answers]
            for sight, ceiling in pairs_near(source, views, 4):
                minute = first_of(views, sight, ceiling)
                self.assertEqual(first(sight, ceiling, bytes_of(text)), [minute], (sight, ceiling, text))


class WhatHolds(unittest.TestCase):
    def test_a_text_that_is_read_is_written_as_it_was_and_read_again_as_it_was(self):
        source = random.Random(25)
        for turn in range(1500):
            text = bytes_of(draw_near_report(source))
            numbers = read(text)
            self.assertEqual(write(numbers[1:]), [len(text)] + text)
            self.assertEqual(read(write(numbers[1:])[1:]), numbers)

    def test_what_is_told_as_the_least_may_be_and_nothing_less(self):
        source = random.Random(26)
        for turn in range(400):
            text = draw_near_report(source)
            minute = source.randint(0, 300)
            told, sight, ceiling = least(minute, bytes_of(text))
            views = ways(*parts_of(text), minute)
            self.assertEqual(told, 0)
            self.assertIn(sight, {view[0] for view in views})
            self.assertIn(ceiling, {view[1] for view in views})
            self.assertFalse([view for view in views if view[0] < sight or view[1] < ceiling])

    def test_behind_changes_at_times_nothing_is_left_of_them(self):
        source = random.Random(27)
        seen = 0
        for turn in range(1500):
            text = draw_near_report(source)
            view, changes = parts_of(text)
            ends = [ends for at_times, begins, ends, told in changes if at_times]
            lasting = [change for change in changes if not change[0]]
            if not ends or max(ends) >= 1440:
                continue
            seen += 1
            for minute in (max(ends) + 1, 1440):
                expected = [min(part) for part in zip(*ways(view, lasting, minute))]
                self.assertEqual(least(minute, bytes_of(text)), [0, *expected], (minute, text))
        self.assertGreater(seen, 500)


if __name__ == "__main__":
    unittest.main()
