"""least beside a second way of telling what may come, for drawn reports and texts with a fault."""

import random
import unittest

from tests.faults import with_a_fault
from tests.oracle import draw_report, is_report
from tests.samples import bytes_of
from tests.views_oracle import draw_near_report, edges, least_told
from weathercode.reports import least


class Drawn(unittest.TestCase):
    def tells_least(self, text, minutes):
        for minute in minutes:
            self.assertEqual(least(minute, bytes_of(text)), [0, *least_told(text, minute)], (minute, text))

    def test_drawn_reports(self):
        source = random.Random(11)
        for turn in range(600):
            text = draw_report(source)[0]
            self.tells_least(text, edges(text))

    def test_drawn_reports_with_changes_within_some_hours(self):
        source = random.Random(12)
        for turn in range(1200):
            text = draw_near_report(source)
            self.tells_least(text, edges(text))

    def test_every_minute_of_some_reports(self):
        source = random.Random(13)
        for turn in range(6):
            self.tells_least(draw_near_report(source), range(1441))

    def test_texts_with_a_fault(self):
        source = random.Random(14)
        refused = 0
        for turn in range(3000):
            text = with_a_fault(source, draw_near_report(source))
            minute = source.choice([0, 60, 240, source.randint(0, 1440)])
            if is_report(text):
                self.tells_least(text, [minute])
            else:
                refused += 1
                self.assertEqual(least(minute, bytes_of(text)), [-71], text)
        self.assertGreater(refused, 1000)


if __name__ == "__main__":
    unittest.main()
