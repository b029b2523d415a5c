"""first: the first minute, of 0 to 240, at which less may be seen, or clouds may hang lower, than told."""

import itertools
import unittest

from tests.samples import bytes_of, text_of
from weathercode.reports import first

NONE = -61
MOST = 4294967295


class FirstCase(unittest.TestCase):
    def tells(self, trend, answers, **parts):
        """Of each pair of a sight and a ceiling the minute; the report itself has 8000 and 20."""
        text = text_of(**{"sight": "8000", "sky": "BKN020", "trend": trend, **parts})
        for (sight, ceiling), minute in answers.items():
            with self.subTest(sight=sight, ceiling=ceiling, text=text):
                self.assertEqual(first(sight, ceiling, bytes_of(text)), [minute])


class WithoutChanges(FirstCase):
    def test_the_report_itself(self):
        for trend in ("", "NOSIG"):
            self.tells(trend, {(8000, 20): NONE, (8001, 20): 0, (8000, 21): 0, (8001, 21): 0, (7999, 19): NONE,
                               (8001, 0): 0, (0, 21): 0, (8000, 0): NONE, (0, 20): NONE, (9999, 999): 0})

    def test_nothing_is_less_than_0(self):
        for sky in ("VV000", "OVC000", "NSC"):
            self.tells("", {(0, 0): NONE}, sight="0000", sky=sky)
        self.tells("", {(1, 0): 0, (0, 1): 0, (1, 1): 0}, sight="0000", sky="VV000")
        self.tells("", {(1, 0): 0, (0, 1): NONE, (0, 999): NONE, (0, 1000): 0}, sight="0000", sky="NSC")
        self.tells("", {(1, 0): NONE, (50, 0): NONE, (51, 0): 0, (0, 1): 0}, sight="0050", sky="BKN000")

    def test_the_widest_sight_and_no_ceiling(self):
        answers = {(9999, 999): NONE, (10000, 999): 0, (9999, 1000): 0, (10000, 0): 0, (0, 1000): 0, (9999, 0): NONE,
                   (0, 999): NONE, (9998, 998): NONE, (10001, 0): 0, (0, 1001): 0, (MOST, 0): 0, (0, MOST): 0,
                   (MOST, MOST): 0, (0, 0): NONE}
        self.tells("", answers, sight="CAVOK", sky="")
        self.tells("NOSIG", answers, sight="CAVOK", sky="")
        self.tells("", answers, sight="9999", sky="NSC")
        self.tells("", answers, sight="9999", sky="FEW001 SCT002CB")

    def test_the_most_that_is_asked(self):
        self.tells("", {(MOST, 0): 0, (0, MOST): 0, (MOST, MOST): 0})
        self.tells("TEMPO FM1620 0000", {(MOST, 0): 0, (0, MOST): 0})


class Minutes(FirstCase):
    def test_a_minute_in_between(self):
        for manner in ("TEMPO", "BECMG"):
            self.tells(f"{manner} FM1250 TL1330 0500 OVC003", {
                (8000, 20): 30, (501, 0): 30, (500, 0): NONE, (0, 4): 30, (0, 3): NONE, (500, 3): NONE,
                (501, 3): 30, (500, 4): 30, (8001, 0): 0, (0, 21): 0})

    def test_the_last_minute_and_the_one_behind_it(self):
        for manner, tail in itertools.product(("TEMPO", "BECMG"), ("", "TL1620 ", "TL1700 ")):
            self.tells(f"{manner} FM1619 {tail}0500", {(501, 0): 239, (500, 0): NONE})
            self.tells(f"{manner} FM1620 {tail}0500", {(501, 0): 240, (500, 0): NONE, (8001, 0): 0})
        for manner, tail in itertools.product(("TEMPO", "BECMG"), ("", "TL1630 ", "TL1700 ")):
            self.tells(f"{manner} FM1621 {tail}0500", {(501, 0): NONE, (8000, 20): NONE, (8001, 0): 0})
            self.tells(f"{manner} FM1622 {tail}OVC000", {(0, 1): NONE, (8000, 20): NONE, (0, 21): 0})

    def test_much_later(self):
        for manner, clock in itertools.product(("TEMPO", "BECMG"), ("1700", "2359", "0000", "1200", "1219")):
            self.tells(f"{manner} FM{clock} 0000 VV000", {(8000, 20): NONE, (8001, 20): 0})

    def test_the_time_of_the_report(self):
        for manner, times in itertools.product(
                ("TEMPO", "BECMG"), ("", "FM1220 ", "TL1220 ", "FM1220 TL1220 ", "TL1219 ")):
            self.tells(f"{manner} {times}0500", {(501, 0): 0, (500, 0): NONE})

    def test_the_minute_behind_the_report(self):
        for manner in ("TEMPO", "BECMG"):
            self.tells(f"{manner} FM1221 TL1221 0500", {(501, 0): 1, (500, 20): NONE})

    def test_over_midnight(self):
        for manner in ("TEMPO", "BECMG"):
            self.tells(f"{manner} FM0000 TL0030 0500", {(501, 0): 60, (500, 0): NONE}, moment="162300Z")
            self.tells(f"{manner} FM2330 TL0030 0500", {(501, 0): 30}, moment="162300Z")
            self.tells(f"{manner} FM0300 TL0330 0500", {(501, 0): 240}, moment="162300Z")
            self.tells(f"{manner} FM0301 TL0330 0500", {(501, 0): NONE}, moment="162300Z")
            self.tells(f"{manner} FM0000 0500", {(501, 0): 1}, moment="312359Z")
            self.tells(f"{manner} FM2359 0500", {(501, 0): NONE}, moment="010000Z")

    def test_an_end_ahead_of_its_beginning(self):
        self.tells("TEMPO FM1330 TL1250 0500", {(8000, 20): NONE})
        self.tells("TEMPO FM1221 TL1220 0500", {(8000, 20): NONE})
        self.tells("BECMG FM1330 TL1250 0500", {(8000, 20): 70, (501, 0): 70})
        self.tells("BECMG FM1620 TL1619 0500", {(501, 0): 240})


class WhatIsBelow(FirstCase):
    def test_only_the_sight(self):
        for manner in ("TEMPO", "BECMG"):
            self.tells(f"{manner} FM1250 0500", {(501, 0): 30, (501, 20): 30, (0, 20): NONE, (500, 20): NONE})
            self.tells(f"{manner} FM1250 0500 NSC", {(501, 20): 30, (500, 20): NONE, (0, 21): 0})

    def test_only_the_ceiling(self):
        for manner, sky in itertools.product(("TEMPO", "BECMG"), ("OVC003", "VV003", "FEW001 BKN003", "9999 OVC003")):
            self.tells(f"{manner} FM1250 {sky}", {(0, 4): 30, (8000, 4): 30, (8000, 3): NONE, (8000, 0): NONE})

    def test_each_from_another_view(self):
        for one, other in itertools.product(("TEMPO", "BECMG"), repeat=2):
            self.tells(f"{one} FM1250 TL1300 0500 {other} FM1310 TL1320 OVC003", {
                (501, 4): 30, (501, 0): 30, (0, 4): 50, (500, 4): 50, (500, 3): NONE, (8000, 20): 30})
            self.tells(f"{one} FM1310 TL1320 0500 {other} FM1250 TL1300 OVC003", {
                (501, 4): 30, (501, 0): 50, (0, 4): 30, (501, 3): 50, (500, 3): NONE, (8000, 20): 30})

    def test_a_better_change_is_not_below(self):
        for manner, told in itertools.product(("TEMPO", "BECMG"), ("CAVOK", "9999", "NSC", "BKN100", "8000 BKN020")):
            self.tells(f"{manner} {told}", {(8000, 20): NONE, (8001, 0): 0, (0, 21): 0})
            self.tells(f"{manner} FM1250 TL1300 {told}", {(8000, 20): NONE, (8001, 0): 0, (0, 21): 0})

    def test_wind_and_weather_are_not_asked(self):
        for manner, told in itertools.product(("TEMPO", "BECMG"), ("24015G27KT", "NSW", "FG", "00000KT +TSRA")):
            self.tells(f"{manner} FM1250 {told}", {(8000, 20): NONE, (8001, 20): 0})

    def test_of_a_report_with_cavok(self):
        parts = {"sight": "CAVOK", "sky": ""}
        for manner in ("TEMPO", "BECMG"):
            self.tells(f"{manner} FM1250 9000", {(9999, 999): 30, (9001, 0): 30, (9000, 999): NONE}, **parts)
            self.tells(f"{manner} FM1250 OVC300", {(9999, 999): 30, (0, 301): 30, (9999, 300): NONE}, **parts)
            self.tells(f"{manner} FM1250 9999 NSC", {(9999, 999): NONE, (10000, 999): 0}, **parts)


class SeveralChanges(FirstCase):
    def test_at_times_behind_becoming(self):
        self.tells("BECMG FM1230 TL1250 3000 TEMPO FM1300 TL1400 0500 OVC003", {
            (8000, 0): 10, (3001, 0): 10, (3000, 0): 40, (501, 0): 40, (500, 0): NONE, (0, 20): 40})
        # The ceiling that goes with the sight at times is the one that was becoming.
        self.tells("BECMG FM1230 TL1250 9999 NSC TEMPO FM1300 TL1400 0500", {(8000, 20): 40, (0, 20): NONE})

    def test_becoming_behind_at_times(self):
        self.tells("TEMPO FM1300 TL1400 0500 OVC003 BECMG FM1230 TL1250 3000", {
            (8000, 0): 10, (3000, 0): 40, (501, 0): 40, (500, 0): NONE, (0, 20): 40})
        self.tells("TEMPO TL1230 9999 BECMG FM1240 TL1250 0500", {(8000, 20): 20, (501, 0): 20, (500, 20): NONE})

    def test_two_of_one_thing(self):
        for one, other in itertools.product(("TEMPO", "BECMG"), repeat=2):
            self.tells(f"{one} FM1230 TL1250 3000 {other} FM1300 TL1400 0500", {
                (8000, 0): 10, (3001, 0): 10, (3000, 0): 40, (501, 0): 40, (500, 0): NONE})
            self.tells(f"{one} FM1230 TL1250 OVC003 {other} FM1300 TL1400 OVC010", {
                (0, 20): 10, (0, 11): 10, (0, 4): 10, (0, 3): NONE})
        for one, other in (("TEMPO", "TEMPO"), ("TEMPO", "BECMG"), ("BECMG", "TEMPO")):
            self.tells(f"{one} FM1300 TL1400 0500 {other} FM1230 TL1250 3000", {
                (8000, 0): 10, (3000, 0): 40, (501, 0): 40, (500, 0): NONE})

    def test_without_times(self):
        for one, other in itertools.product(("TEMPO", "BECMG"), repeat=2):
            self.tells(f"{one} 3000 {other} OVC003", {(8000, 0): 0, (3000, 0): NONE, (0, 4): 0, (3000, 3): NONE})

    def test_becoming_better_hides_what_comes_ahead_of_it_in_the_text(self):
        # The becoming told last, once it has ended, changes the lasting views of the one told first, too.
        self.tells("BECMG FM1300 TL1400 0500 BECMG FM1230 TL1250 3000", {(3001, 0): 10, (3000, 0): NONE})
        self.tells("BECMG FM1300 TL1310 0500 BECMG TL1230 9999", {(8000, 20): NONE, (501, 0): NONE})
        self.tells("BECMG FM1300 TL1310 0500 BECMG TL1300 9999", {(8000, 20): 40, (501, 0): 40})
        self.tells("BECMG TL1230 9999 BECMG FM1300 TL1310 0500", {(8000, 20): 40, (501, 0): 40})
        # What is at times is not changed by it.
        self.tells("TEMPO FM1300 TL1310 0500 BECMG TL1230 9999", {(8000, 20): 40, (501, 0): 40})

    def test_at_times_of_a_view_that_is_gone(self):
        self.tells("BECMG TL1230 9999 NSC TEMPO FM1230 TL1240 3000", {(3001, 0): 10, (0, 20): NONE})
        self.tells("BECMG TL1229 OVC003 BECMG FM1229 TL1239 NSC TEMPO FM1240 TL1250 0500", {
            (501, 0): 20, (0, 4): 0, (0, 3): NONE})

    def test_three_changes(self):
        self.tells("BECMG FM1230 TL1240 5000 TEMPO FM1300 TL1330 1000 BKN010 BECMG FM1400 TL1430 0300 VV001", {
            (8000, 20): 10, (5001, 0): 10, (5000, 0): 40, (1001, 0): 40, (1000, 0): 100, (301, 0): 100,
            (300, 0): NONE, (0, 20): 40, (0, 11): 40, (0, 10): 100, (0, 2): 100, (0, 1): NONE, (1000, 11): 40})
        self.tells("TEMPO FM1620 0500 TEMPO FM1621 0300 BECMG FM1619 3000", {
            (3001, 0): 239, (3000, 0): 240, (501, 0): 240, (500, 0): NONE})


class Refusals(unittest.TestCase):
    def answers(self, bytes_handed, answer):
        for sight, ceiling in itertools.product((0, 1, 5000, MOST), repeat=2):
            with self.subTest(sight=sight, ceiling=ceiling, n=len(bytes_handed)):
                self.assertEqual(first(sight, ceiling, bytes_handed), answer)

    def test_400_bytes_and_401(self):
        for sign in (0, 32, 61, 65, 255):
            self.answers([sign] * 400, [-71])
            for size in (401, 402, 500):
                self.answers([sign] * size, [-22])
        self.answers(bytes_of(text_of().rjust(400)), [-71])
        self.answers(bytes_of(text_of().rjust(401)), [-22])
        self.answers(bytes_of(text_of().ljust(401, "=")), [-22])

    def test_no_report(self):
        for text in ("=", " ", text_of()[:-1], text_of() + " ", " " + text_of(), text_of() + "=", text_of().lower(),
                     text_of().replace(" ", "  ", 1), text_of(sky=""), text_of(weather="XX"), text_of(sight="8500"),
                     text_of(trend="TEMPO"), text_of(trend="BECMG FM1300"), text_of(trend="NOSIG NOSIG"),
                     text_of(trend="BECMG CAVOK NSW"), text_of(trend="TEMPO TL1400 FM1300 0500"),
                     text_of(trend="TEMPO FM1260 0500"), text_of(trend=" ".join(["BECMG 0500"] * 4))):
            self.answers(bytes_of(text), [-71])

    def test_empty_list(self):
        self.answers([], [-71])


if __name__ == "__main__":
    unittest.main()
