"""write beside read, and beside a second way of telling numbers: drawn ones, and drawn ones with faults put in."""

import itertools
import random
import unittest

from tests.faults import NEAR, with_a_fault, with_a_fault_in_numbers
from tests.numbers_oracle import text_told
from tests.oracle import KINDS, MANNERS, WEATHER, draw_report
from tests.samples import bytes_of, numbers_of, text_of
from weathercode.reports import read, write

REFUSED = [-22]


class WriteCase(unittest.TestCase):
    def writes(self, numbers, text):
        answer = write(numbers)
        self.assertEqual(answer, REFUSED if text is None else [len(text)] + bytes_of(text), numbers)


class Drawn(WriteCase):
    def test_drawn_reports(self):
        source = random.Random(3)
        for turn in range(3000):
            text, numbers = draw_report(source)
            self.writes(numbers, text)

    def test_drawn_numbers_with_a_fault(self):
        source = random.Random(4)
        written = 0
        for turn in range(6000):
            numbers = with_a_fault_in_numbers(source, draw_report(source)[1])
            text = text_told(numbers)
            self.writes(numbers, text)
            written += text is not None
        self.assertGreater(written, 500)


class ThereAndBack(unittest.TestCase):
    def test_a_text_that_is_read_is_written_as_it_was(self):
        source = random.Random(5)
        taken = 0
        for turn in range(6000):
            text = with_a_fault(source, draw_report(source)[0])
            answer = read(bytes_of(text))
            if answer != [-71]:
                taken += 1
                self.assertEqual(len(answer), answer[0] + 1, text)
                self.assertEqual(write(answer[1:]), [len(text)] + bytes_of(text))
        self.assertGreater(taken, 500)

    def test_a_report_that_is_written_is_read_as_what_it_was(self):
        source = random.Random(6)
        taken = 0
        for turn in range(6000):
            numbers = with_a_fault_in_numbers(source, draw_report(source)[1])
            answer = write(numbers)
            if answer != REFUSED:
                taken += 1
                self.assertEqual(len(answer), answer[0] + 1, numbers)
                self.assertEqual(read(answer[1:]), [len(numbers)] + numbers)
        self.assertGreater(taken, 500)


class EveryNumber(WriteCase):
    def test_each_number_of_some_reports_otherwise(self):
        source = random.Random(7)
        for turn in range(12):
            numbers = draw_report(source)[1]
            for place, number in itertools.product(range(len(numbers)), NEAR):
                other = numbers[:place] + [number] + numbers[place + 1:]
                self.writes(other, text_told(other))

    def test_every_sight(self):
        for metres in range(-101, 10102):
            numbers = numbers_of(sight=metres, weather=(0,), sky=(0,))
            sky = "" if metres == 10000 else "NSC"
            text = text_of(sight="CAVOK" if metres == 10000 else f"{metres:04}", sky=sky)
            self.writes(numbers, text if read(bytes_of(text)) != [-71] else None)

    def test_every_wind_of_three_numbers(self):
        for degrees in (-10, 0, 5, 10, 180, 355, 360, 370, 990, 998, 999, 1000):
            for speed, gusts in itertools.product((-1, 0, 1, 2, 50, 98, 99, 100), repeat=2):
                numbers = numbers_of(wind=(degrees, speed, gusts, 999, 999))
                self.writes(numbers, text_told(numbers))

    def test_every_sector(self):
        directions = [*range(-10, 380, 5), 998, 999, 1000]
        for one, other in itertools.product(directions, repeat=2):
            numbers = numbers_of(wind=(180, 10, 0, one, other))
            fits = one % 10 == 0 and other % 10 == 0 and one != other and {one, other} <= set(range(10, 361))
            word = f"18010KT {one:03}V{other:03}"
            if one == other == 999:
                self.writes(numbers, text_of())
            else:
                self.writes(numbers, text_of(wind=word) if fits else None)

    def test_every_pair_of_degrees(self):
        for upper, lower in itertools.product(range(-62, 63), repeat=2):
            told = [f"M{-degree:02}" if degree < 0 else f"{degree:02}" for degree in (upper, lower)]
            fits = -60 <= lower <= upper <= 60
            self.writes(numbers_of(degrees=(upper, lower)), text_of(degrees="/".join(told)) if fits else None)


class EveryWordOfWeather(WriteCase):
    def test_every_word_there_is(self):
        for word, numbers in WEATHER.items():
            self.writes(numbers_of(weather=(1, *numbers)), text_of(weather=word))

    def test_words_made_of_manners_and_kinds(self):
        words = {tuple(numbers): word for word, numbers in WEATHER.items()}
        runs = [()]
        runs += itertools.product(range(len(KINDS) + 2))
        runs += itertools.product(range(len(KINDS) + 2), repeat=2)
        runs += itertools.product(range(1, 10), repeat=3)
        for strength, manner, run in itertools.product(range(3), range(len(MANNERS) + 1), runs):
            numbers = (strength, manner, len(run), *run)
            text = text_of(weather=words[numbers]) if numbers in words else None
            self.writes(numbers_of(weather=(1, *numbers)), text)


if __name__ == "__main__":
    unittest.main()
