"""read and write: ordinary reports, with the whole list of numbers, and the whole text, that is answered."""

import unittest

from tests.samples import bytes_of, numbers_of, text_of
from weathercode.reports import read, write


class OrdinaryCase(unittest.TestCase):
    def tells(self, text, numbers):
        """The text is read as these numbers, and these numbers are written as the text."""
        with self.subTest(text=text):
            self.assertEqual(read(bytes_of(text)), [len(numbers)] + numbers)
            self.assertEqual(write(numbers), [len(text)] + bytes_of(text))

    def tells_parts(self, texts, numbers):
        self.tells(text_of(**texts), numbers_of(**numbers))

    def tells_part(self, part, pairs):
        for word, numbers in pairs:
            self.tells_parts({part: word}, {part: numbers})


class WholeReports(OrdinaryCase):
    def test_least_report(self):
        self.tells("LOWW 161220Z 00000KT CAVOK 10/05 Q1013=",
                   [76, 79, 87, 87, 16, 12, 20, 0, 0, 0, 999, 999, 10000, 10, 5, 1013, 0, 0, 0, 0])

    def test_bytes_that_are_written(self):
        numbers = [65, 66, 89, 90, 3, 4, 5, 60, 7, 18, 50, 70, 600, 9, -9, 987, 1, 0, 0, 1, 2, 1, 3, 1, 0]
        self.assertEqual(write(numbers), [66, 65, 66, 89, 90, 32, 48, 51, 48, 52, 48, 53, 90, 32,
                                          48, 54, 48, 48, 55, 71, 49, 56, 75, 84, 32, 48, 53, 48, 86, 48, 55, 48, 32,
                                          48, 54, 48, 48, 32, 45, 82, 65, 32, 86, 86, 48, 48, 51, 32,
                                          48, 57, 47, 77, 48, 57, 32, 81, 48, 57, 56, 55, 32, 78, 79, 83, 73, 71, 61])

    def test_every_word_present(self):
        text = ("EDDF 010600Z 24015G27KT 210V280 4500 -SHRA BR FEW012 SCT020CB BKN040TCU 08/M02 Q0998"
                " BECMG FM0630 TL0730 27010KT 9999 NSW SCT030 TEMPO 0800 +TSRAGR VV002=")
        numbers = [69, 68, 68, 70, 1, 6, 0, 240, 15, 27, 210, 280, 4500, 8, -2, 998,
                   2, 0, 6, 1, 2, 1, 0, 1, 8,
                   2, 3, 1, 12, 0, 2, 20, 1, 3, 40, 2,
                   2, 2,
                   1, 390, 450, 1, 270, 10, 0, 9999, 0, 2, 1, 2, 30, 0,
                   2, -1, -1, 0, 800, 1, 2, 7, 2, 2, 6, 1, 2]
        self.tells(text, numbers)

    def test_longest_report(self):
        weather = "+TSRASNGR"
        sky = "FEW001TCU SCT002TCU BKN003TCU OVC004TCU"
        change = f"TEMPO FM0000 TL2359 36098G99KT 0000 {weather} {sky}"
        text = text_of(wind="36098G99KT 010V020", weather=" ".join([weather] * 3), sky=sky,
                       degrees="M59/M60", trend=" ".join([change] * 3))
        self.assertEqual(len(text), 379)
        word_numbers = (2, 7, 3, 2, 3, 6)
        sky_numbers = (2, 4, 1, 1, 2, 2, 2, 2, 3, 3, 2, 4, 4, 2)
        change_numbers = (2, 0, 1439, 1, 360, 98, 99, 0, 1, *word_numbers, *sky_numbers)
        numbers = numbers_of(
            wind=(360, 98, 99, 10, 20), degrees=(-59, -60), weather=(3, *word_numbers * 3),
            sky=sky_numbers, trend=(2, 3, *change_numbers * 3))
        self.assertEqual(len(numbers), 138)
        self.tells(text, numbers)


class Parts(OrdinaryCase):
    def test_station_and_moment(self):
        self.tells_part("station", [("AZAZ", (65, 90, 65, 90)), ("ZZZZ", (90, 90, 90, 90))])
        self.tells_part("moment", [("010000Z", (1, 0, 0)), ("312359Z", (31, 23, 59))])

    def test_wind(self):
        self.tells_part("wind", [
            ("00000KT", (0, 0, 0, 999, 999)),
            ("01001KT", (10, 1, 0, 999, 999)),
            ("36099KT", (360, 99, 0, 999, 999)),
            ("VRB03KT", (999, 3, 0, 999, 999)),
            ("VRB03G15KT", (999, 3, 15, 999, 999)),
            ("09012G30KT", (90, 12, 30, 999, 999)),
        ])

    def test_sector(self):
        self.tells_part("wind", [
            ("18010KT 150V210", (180, 10, 0, 150, 210)),
            ("18010KT 210V150", (180, 10, 0, 210, 150)),
            ("18010G20KT 010V360", (180, 10, 20, 10, 360)),
        ])

    def test_sight(self):
        for metres in (0, 50, 100, 750, 800, 900, 1500, 4900, 5000, 6000, 7000, 8000, 9000, 9999):
            self.tells_parts({"sight": f"{metres:04}"}, {"sight": metres})

    def test_cavok(self):
        self.tells_parts({"sight": "CAVOK", "sky": ""}, {"sight": 10000, "sky": (0,), "weather": (0,)})

    def test_manners(self):
        self.tells_part("weather", [
            ("MIFG", (1, 1, 1, 1, 9)), ("BCFG", (1, 1, 2, 1, 9)), ("PRFG", (1, 1, 3, 1, 9)),
            ("DRSN", (1, 1, 4, 1, 3)), ("DRDU", (1, 1, 4, 1, 12)), ("DRSA", (1, 1, 4, 1, 13)),
            ("BLSN", (1, 1, 5, 1, 3)), ("BLDU", (1, 1, 5, 1, 12)), ("BLSA", (1, 1, 5, 1, 13)),
            ("SHRA", (1, 1, 6, 1, 2)), ("SHGSSN", (1, 1, 6, 2, 7, 3)),
            ("TS", (1, 1, 7, 0)), ("TSDZ", (1, 1, 7, 1, 1)), ("TSSNRAPL", (1, 1, 7, 3, 3, 2, 5)),
            ("FZDZ", (1, 1, 8, 1, 1)), ("FZRASN", (1, 1, 8, 2, 2, 3)), ("FZFG", (1, 1, 8, 1, 9)),
        ])

    def test_kinds(self):
        kinds = "DZ RA SN SG PL GR GS BR FG FU VA DU SA HZ PO SQ FC SS DS".split()
        self.tells_part("weather", [(kind, (1, 1, 0, 1, k)) for k, kind in enumerate(kinds, start=1)])

    def test_strengths(self):
        self.tells_part("weather", [
            ("-RA", (1, 0, 0, 1, 2)), ("RA", (1, 1, 0, 1, 2)), ("+RA", (1, 2, 0, 1, 2)),
            ("-FZDZ", (1, 0, 8, 1, 1)), ("+TSGRRA", (1, 2, 7, 2, 6, 2)), ("+BLSN", (1, 2, 5, 1, 3)),
            ("-SNRADZ", (1, 0, 0, 3, 3, 2, 1)),
        ])

    def test_words_of_weather(self):
        self.tells_part("weather", [
            ("", (0,)),
            ("RA BR", (2, 1, 0, 1, 2, 1, 0, 1, 8)),
            ("TS -RA FG", (3, 1, 7, 0, 0, 0, 1, 2, 1, 0, 1, 9)),
            ("RA RA RA", (3, 1, 0, 1, 2, 1, 0, 1, 2, 1, 0, 1, 2)),
        ])

    def test_sky(self):
        self.tells_part("sky", [
            ("NSC", (0,)),
            ("VV000", (1, 0)), ("VV005", (1, 5)), ("VV100", (1, 100)),
            ("FEW010", (2, 1, 1, 10, 0)), ("SCT000CB", (2, 1, 2, 0, 1)),
            ("BKN100TCU", (2, 1, 3, 100, 2)), ("OVC300", (2, 1, 4, 300, 0)), ("OVC020CB", (2, 1, 4, 20, 1)),
            ("BKN010 FEW020", (2, 2, 3, 10, 0, 1, 20, 0)),
            ("FEW010 SCT020CB BKN030", (2, 3, 1, 10, 0, 2, 20, 1, 3, 30, 0)),
            ("FEW010 FEW020 SCT030 OVC040", (2, 4, 1, 10, 0, 1, 20, 0, 2, 30, 0, 4, 40, 0)),
        ])

    def test_degrees(self):
        self.tells_part("degrees", [
            ("00/00", (0, 0)), ("60/60", (60, 60)), ("60/M60", (60, -60)), ("M60/M60", (-60, -60)),
            ("00/M01", (0, -1)), ("M05/M12", (-5, -12)), ("09/08", (9, 8)),
        ])

    def test_pressure(self):
        for pressure in (850, 999, 1000, 1100):
            self.tells_parts({"pressure": f"Q{pressure:04}"}, {"pressure": pressure})


class Trends(OrdinaryCase):
    def test_nothing_more_and_nosig(self):
        self.tells_part("trend", [("", (0, 0)), ("NOSIG", (1, 0))])

    def test_each_changed_thing_alone(self):
        self.tells_part("trend", [
            ("BECMG 24015G27KT", (2, 1, 1, -1, -1, 1, 240, 15, 27, -1, -1, -1)),
            ("BECMG 00000KT", (2, 1, 1, -1, -1, 1, 0, 0, 0, -1, -1, -1)),
            ("TEMPO VRB05KT", (2, 1, 2, -1, -1, 1, 999, 5, 0, -1, -1, -1)),
            ("TEMPO 0000", (2, 1, 2, -1, -1, 0, 0, -1, -1)),
            ("TEMPO 9999", (2, 1, 2, -1, -1, 0, 9999, -1, -1)),
            ("BECMG CAVOK", (2, 1, 1, -1, -1, 0, 10000, -1, -1)),
            ("TEMPO -SHRA", (2, 1, 2, -1, -1, 0, -1, 1, 0, 6, 1, 2, -1)),
            ("BECMG NSW", (2, 1, 1, -1, -1, 0, -1, 0, -1)),
            ("BECMG NSC", (2, 1, 1, -1, -1, 0, -1, -1, 0)),
            ("BECMG VV001", (2, 1, 1, -1, -1, 0, -1, -1, 1, 1)),
            ("TEMPO BKN004 OVC010CB", (2, 1, 2, -1, -1, 0, -1, -1, 2, 2, 3, 4, 0, 4, 10, 1)),
        ])

    def test_times_of_a_change(self):
        self.tells_part("trend", [
            ("BECMG FM0000 0500", (2, 1, 1, 0, -1, 0, 500, -1, -1)),
            ("BECMG TL2359 0500", (2, 1, 1, -1, 1439, 0, 500, -1, -1)),
            ("TEMPO FM1230 TL1345 0500", (2, 1, 2, 750, 825, 0, 500, -1, -1)),
            ("TEMPO FM1230 TL1230 0500", (2, 1, 2, 750, 750, 0, 500, -1, -1)),
        ])

    def test_several_changed_things(self):
        self.tells_part("trend", [
            ("BECMG 18010KT CAVOK", (2, 1, 1, -1, -1, 1, 180, 10, 0, 10000, -1, -1)),
            ("TEMPO 18010KT NSC", (2, 1, 2, -1, -1, 1, 180, 10, 0, -1, -1, 0)),
            ("TEMPO 18010KT TS FEW010", (2, 1, 2, -1, -1, 1, 180, 10, 0, -1, 1, 1, 7, 0, 2, 1, 1, 10, 0)),
            ("TEMPO 18010KT 3000 +RA NSC", (2, 1, 2, -1, -1, 1, 180, 10, 0, 3000, 1, 2, 0, 1, 2, 0)),
        ])

    def test_several_changes(self):
        self.tells_part("trend", [
            ("BECMG NSW BECMG NSC", (2, 2, 1, -1, -1, 0, -1, 0, -1, 1, -1, -1, 0, -1, -1, 0)),
            ("TEMPO NSW BECMG CAVOK TEMPO 0100",
             (2, 3, 2, -1, -1, 0, -1, 0, -1, 1, -1, -1, 0, 10000, -1, -1, 2, -1, -1, 0, 100, -1, -1)),
        ])

    def test_trend_behind_cavok(self):
        self.tells_parts({"sight": "CAVOK", "sky": "", "trend": "TEMPO 0100 FG"},
                   {"sight": 10000, "trend": (2, 1, 2, -1, -1, 0, 100, 1, 1, 0, 1, 9, -1)})


class Corners(OrdinaryCase):
    def test_corners_that_are_read(self):
        self.tells_part("wind", [
            ("36010KT 350V010", (360, 10, 0, 350, 10)),
            ("18010G11KT", (180, 10, 11, 999, 999)),
            ("18098G99KT", (180, 98, 99, 999, 999)),
        ])
        self.tells_part("sight", [("0000", 0), ("9999", 9999)])
        self.tells_part("weather", [("TS", (1, 1, 7, 0)), ("FZFG", (1, 1, 8, 1, 9))])
        self.tells_part("sky", [("BKN010 OVC010", (2, 2, 3, 10, 0, 4, 10, 0))])
        self.tells_part("degrees", [("M01/M01", (-1, -1))])
        self.tells_part("trend", [
            ("TEMPO 5000 NSW", (2, 1, 2, -1, -1, 0, 5000, 0, -1)),
            ("TEMPO FM2330 TL0030 0500", (2, 1, 2, 1410, 30, 0, 500, -1, -1)),
            ("BECMG 3000 BECMG 0500", (2, 2, 1, -1, -1, 0, 3000, -1, -1, 1, -1, -1, 0, 500, -1, -1)),
            ("BECMG 3000 TEMPO 0500", (2, 2, 1, -1, -1, 0, 3000, -1, -1, 2, -1, -1, 0, 500, -1, -1)),
        ])


if __name__ == "__main__":
    unittest.main()
