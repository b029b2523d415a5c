"""read beside a second way of telling reports: drawn ones, and drawn ones with faults put in."""

import itertools
import random
import unittest

from tests.faults import with_a_fault
from tests.oracle import KINDS, MANNERS, RAIN, WEATHER, draw_report, is_report
from tests.samples import bytes_of, text_of
from weathercode.reports import read


class Drawn(unittest.TestCase):
    def test_drawn_reports(self):
        source = random.Random(1)
        for turn in range(3000):
            text, numbers = draw_report(source)
            self.assertTrue(is_report(text), text)
            self.assertEqual(read(bytes_of(text)), [len(numbers)] + numbers, text)

    def test_drawn_reports_with_a_fault(self):
        source = random.Random(2)
        for turn in range(8000):
            text = with_a_fault(source, draw_report(source)[0])
            self.assertEqual(read(bytes_of(text)) != [-71], is_report(text), text)


class EveryWordOfWeather(unittest.TestCase):
    def test_words_made_of_manners_and_kinds(self):
        runs = [()]
        runs += itertools.product(KINDS)
        runs += itertools.product(KINDS, repeat=2)
        runs += itertools.product(RAIN + ["FG"], repeat=3)
        for manner, run, sign in itertools.product([""] + MANNERS, runs, ["", "-", "+"]):
            word = sign + manner + "".join(run)
            if word == "":
                continue
            answer = read(bytes_of(text_of(weather=word)))
            numbers = answer[17:-3] if answer != [-71] else None
            self.assertEqual(numbers, [1, *WEATHER[word]] if word in WEATHER else None, word)


if __name__ == "__main__":
    unittest.main()
