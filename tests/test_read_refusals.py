"""read: what is refused, and that the edge beside it is not."""

import unittest

from tests.samples import bytes_of, text_of
from weathercode.reports import read

REFUSED = [-71]


class RefusalCase(unittest.TestCase):
    def refuses_texts(self, texts):
        for text in texts:
            with self.subTest(text=text):
                self.assertEqual(read(bytes_of(text)), REFUSED)

    def refuses(self, part, words):
        self.refuses_texts([text_of(**{part: word}) for word in words])

    def accepts(self, part, words):
        for word in words:
            with self.subTest(word=word):
                self.assertGreater(read(bytes_of(text_of(**{part: word})))[0], 0)


class Length(unittest.TestCase):
    def test_400_is_not_too_long(self):
        self.assertEqual(read([65] * 400), [-71])
        self.assertEqual(read(bytes_of(text_of().rjust(400))), [-71])

    def test_401_and_more_is_too_long_whatever_it_is(self):
        for size in (401, 402, 499, 500):
            self.assertEqual(read([65] * size), [-22])
            self.assertEqual(read([0] * size), [-22])
            self.assertEqual(read([255] * size), [-22])
            self.assertEqual(read([32] * size), [-22])
        self.assertEqual(read(bytes_of(text_of().ljust(401))), [-22])
        many = text_of(trend=" ".join(["TEMPO 18010KT 3000 RA NSC"] * 15))
        self.assertGreater(len(many), 400)
        self.assertEqual(read(bytes_of(many)), [-22])


class Frame(RefusalCase):
    def test_nothing_or_next_to_nothing(self):
        self.refuses_texts(["", "=", " ", " =", "==", "LOWW", "LOWW="])

    def test_end_sign(self):
        whole = text_of()
        self.refuses_texts([whole[:-1], whole[:-1] + " =", whole + "=", whole + " ", whole + "\n", "=" + whole,
                            whole + " NOSIG", whole + whole, whole + " " + whole, whole[:-1] + "\n",
                            whole[:4] + "=" + whole[4:], whole.replace(" ", "= ")])

    def test_other_signs_in_the_place_of_the_end_sign(self):
        for whole in (text_of(), text_of(trend="NOSIG"), text_of(trend="TEMPO 0500")):
            self.refuses_texts([whole[:-1] + chr(byte) for byte in range(256) if chr(byte) != "="])

    def test_blanks(self):
        whole = text_of(weather="RA", trend="TEMPO 0500")
        self.refuses_texts([" " + whole, whole[:-1] + " ="])
        blanks = [place for place, sign in enumerate(whole) if sign == " "]
        for place in blanks:
            before, behind = whole[:place], whole[place + 1:]
            self.refuses_texts([before + other + behind for other in ("  ", "", "\t", "\n", "_", "\xa0", "\0")])

    def test_words_left_out(self):
        words = text_of(weather="RA", sky="FEW010 SCT020")[:-1].split(" ")
        may_be_left_out = ("RA", "FEW010", "SCT020")
        for place, word in enumerate(words):
            text = " ".join(words[:place] + words[place + 1:]) + "="
            with self.subTest(text=text):
                self.assertEqual(read(bytes_of(text)) == REFUSED, word not in may_be_left_out)

    def test_words_twice(self):
        words = text_of(wind="18010KT 150V210", sky="VV001", trend="NOSIG")[:-1].split(" ")
        self.refuses_texts([" ".join(words[:k] + [words[k]] + words[k:]) + "=" for k in range(len(words))])

    def test_words_out_of_order(self):
        words = text_of(wind="18010KT 150V210", weather="RA", sky="VV001", trend="NOSIG")[:-1].split(" ")
        for one in range(len(words)):
            for other in range(one):
                swapped = list(words)
                swapped[one], swapped[other] = words[other], words[one]
                self.refuses_texts([" ".join(swapped) + "="])

    def test_bytes_of_no_report(self):
        whole = bytes_of(text_of(wind="18010G20KT 150V210", weather="-RA", trend="TEMPO FM1200 FEW010CB"))
        self.assertGreater(read(whole)[0], 0)
        signs = set(b" +-/0123456789=ABCDEFGHIJKLMNOPQRSTUVWXYZ")
        for place in range(len(whole)):
            for byte in [byte for byte in range(256) if byte not in signs]:
                self.assertEqual(read(whole[:place] + [byte] + whole[place + 1:]), REFUSED, (place, byte))

    def test_small_letters(self):
        whole = text_of(wind="VRB10G20KT", weather="-RA", sky="FEW010CB", trend="TEMPO FM1200 CAVOK")
        for place, sign in enumerate(whole):
            if sign.isalpha():
                self.refuses_texts([whole[:place] + sign.lower() + whole[place + 1:]])


class StationAndMoment(RefusalCase):
    def test_station(self):
        self.refuses("station", ["LOW", "LOWWW", "LO1W", "1234", "LO-W", "LO/W", "lowW", "L OWW", "METAR LOWW"])

    def test_moment(self):
        self.accepts("moment", ["010000Z", "310000Z", "012300Z", "010059Z"])
        self.refuses("moment", ["000000Z", "320000Z", "012400Z", "010060Z", "990000Z", "019900Z", "010099Z",
                                "01000Z", "0100000Z", "010000", "010000ZZ", "01000Z0", "0A0000Z", "010-00Z",
                                "+10000Z", "Z010000", "Z", "01Z", "010000X"])


class Wind(RefusalCase):
    def test_degrees_of_wind(self):
        self.accepts("wind", ["01010KT", "36010KT", "VRB10KT"])
        self.refuses("wind", ["00010KT", "37010KT", "36510KT", "00510KT", "01110KT", "99910KT", "36110KT",
                              "VRA10KT", "VR010KT", "1810KT", "018010KT", "V10KT", "-1010KT", "01 10KT"])

    def test_speed(self):
        self.accepts("wind", ["00000KT", "18001KT", "18099KT"])
        self.refuses("wind", ["18000KT", "VRB00KT", "01000KT", "36000KT", "00001KT", "00099KT", "180100KT",
                              "1801KT", "180KT", "180AAKT", "180-1KT", "18010", "18010K", "18010KTS",
                              "18010MPS", "18010TK", "18010XT", "18010KX", "18010T", "KT", "18010 KT"])

    def test_gusts(self):
        self.accepts("wind", ["18001G02KT", "18098G99KT", "VRB10G11KT"])
        self.refuses("wind", ["18010G10KT", "18010G09KT", "18010G00KT", "18099G99KT", "18099G00KT", "00000G00KT",
                              "00000G01KT", "00000G10KT", "VRB00G10KT", "VRB10G10KT", "00010G20KT", "18010GKT",
                              "18010G1KT", "18010G100KT", "18010GG20KT", "18010H20KT", "1801020KT", "18010G20",
                              "18010G20KTG30", "18010G20G30KT", "18010GAAKT"])

    def test_sector(self):
        self.accepts("wind", ["18010KT 010V020", "18010KT 360V350", "18001KT 010V360"])
        self.refuses("wind", ["18010KT 150V150", "18010KT 000V150", "18010KT 150V000", "18010KT 370V150",
                              "18010KT 150V370", "18010KT 155V210", "18010KT 150V215", "18010KT 15V210",
                              "18010KT 150V21", "18010KT 150210", "18010KT 150W210", "18010KT 0150V210",
                              "18010KT 150V0210", "18010KT 150V210 150V210", "18010KT 150V210V240",
                              "18010KT VRBV210", "18010KT150V210", "150V210 18010KT", "150V210", "18010KT V",
                              "18010KT 150V21A", "18010KT A50V210"])

    def test_no_sector_at_variable_or_still_wind(self):
        self.refuses("wind", ["VRB10KT 150V210", "VRB10G20KT 150V210", "00000KT 150V210"])


class Sight(RefusalCase):
    def test_every_sight(self):
        told = set(range(0, 800, 50)) | set(range(800, 5000, 100)) | set(range(5000, 9001, 1000)) | {9999}
        for metres in range(10000):
            answer = read(bytes_of(text_of(sight=f"{metres:04}")))
            self.assertEqual(answer == REFUSED, metres not in told, metres)

    def test_words_of_no_sight(self):
        self.refuses("sight", ["800", "08000", "10000", "-100", "800M", "8 00", "CAVO", "CAVOKK", "CAVOK1", "CAVOC",
                               "8000 8000", "8000 CAVOK", "////", "8000NDV"])

    def test_neither_weather_nor_sky_with_cavok(self):
        self.refuses("sight", ["CAVOK"])
        for sky in ("NSC", "VV001", "FEW010"):
            self.refuses_texts([text_of(sight="CAVOK", sky=sky)])
        for weather in ("RA", "TS", "NSW"):
            self.refuses_texts([text_of(sight="CAVOK", weather=weather, sky=""),
                                text_of(sight="CAVOK", weather=weather)])
        self.refuses_texts([text_of(sight="CAVOK CAVOK", sky=""), text_of(sight="CAVOK 9999", sky="")])


class Weather(RefusalCase):
    def test_words_that_are_none(self):
        self.refuses("weather", ["XX", "R", "RAX", "XRA", "A", "RAXX", "XXRA", "-", "+", "--RA", "+-RA", "RA-", "RA+",
                                 "NSW", "UP", "//", "RERA", "VCTS", "VCSH", "1", "RA1", "RA/SN", "ra", "-XX", "TSX",
                                 "TSXX", "FZ1", "AR"])

    def test_light_and_heavy(self):
        self.accepts("weather", ["-DZ", "+GS", "-TSRA", "+SHSN", "-FZRA", "+DRSN", "-BLSN"])
        for sign in "-+":
            self.refuses("weather", [sign + word for word in (
                "BR", "FG", "FU", "VA", "DU", "SA", "HZ", "PO", "SQ", "FC", "SS", "DS", "TS", "FZFG", "MIFG", "BCFG",
                "PRFG", "DRDU", "DRSA", "BLDU", "BLSA")])

    def test_number_of_kinds(self):
        self.accepts("weather", ["DZRASN", "TSGRGSRA", "SHRASNPL", "FZRASNPL"])
        self.refuses("weather", ["DZRASNSG", "TSDZRASNSG", "SHRASNPLGR", "FZRASNPLGR"])

    def test_kinds_are_different(self):
        self.refuses("weather", ["RARA", "RASNRA", "RASNSN", "RARASN", "TSRARA", "SHSNSN", "FZDZDZ", "FGFG", "-RARA"])

    def test_several_kinds_are_all_of_rain(self):
        self.refuses("weather", ["RABR", "BRRA", "BRFG", "RASNFG", "RAFGSN", "FGRASN", "TSRAFG", "SHRABR", "FZRAFG",
                                 "FZDZFG", "DUSA", "-RABR"])

    def test_manners(self):
        self.refuses("weather", ["MI", "BC", "PR", "DR", "BL", "SH", "FZ", "-SH", "+FZ"])
        self.refuses("weather", [manner + kinds for manner in ("MI", "BC", "PR")
                                 for kinds in ("RA", "SN", "BR", "DU", "FGRA", "RAFG", "FGFG")])
        self.refuses("weather", [manner + kinds for manner in ("DR", "BL")
                                 for kinds in ("RA", "FG", "SS", "SNRA", "RASN", "DUSA", "SNDU", "GS")])
        self.refuses("weather", ["SHDZ", "SHRADZ", "SHDZRA", "SHSNRADZ", "SHFG", "SHDU", "SHRAFG"])
        self.refuses("weather", ["TSFG", "TSBR", "TSSQ", "TSFGRA", "TSDS"])
        self.refuses("weather", ["FZSN", "FZSNRA", "FZGR", "FZBR", "FZFGRA", "FZHZ", "FZPLDZ"])
        self.refuses("weather", ["SHTSRA", "TSSHRA", "TSTS", "RATS", "RASH", "FZTSRA", "MIMIFG", "FGMI", "TSRASH"])

    def test_number_of_words(self):
        self.accepts("weather", ["RA", "RA BR", "RA BR FG"])
        self.refuses("weather", ["RA BR FG HZ", "RA RA RA RA", "RA XX", "XX RA", "RA BR XX", "TS TS TS TS"])


class Sky(RefusalCase):
    def test_upright_sight(self):
        self.accepts("sky", ["VV000", "VV100"])
        self.refuses("sky", ["VV101", "VV300", "VV999", "VV", "VV01", "VV0010", "VV///", "VV001CB", "V001", "VVV001",
                             "VX001", "XV001", "VV-01", "VV001 VV001", "VV001 FEW010", "FEW010 VV001", "NSC VV001",
                             "VV001 NSC"])

    def test_clear(self):
        self.refuses("sky", ["NSC NSC", "NSC FEW010", "FEW010 NSC", "NSC010", "NS", "NSCC", "NSW", "SKC", "CLR", "NCD"])

    def test_layers(self):
        self.accepts("sky", ["FEW000", "OVC300", "FEW010CB", "FEW010TCU"])
        self.refuses("sky", ["FEW301", "FEW999", "FEW", "FEW01", "FEW0010", "FEW010C", "FEW010CBB", "FEW010TC",
                             "FEW010TCUU", "FEW010CBTCU", "FEW010 CB", "FEWCB010", "CBFEW010", "FEX010", "010FEW",
                             "FEW///", "FEW-10", "FEW010XX", "SKY010", "FEWCB", "010", "FEW 010"])

    def test_order_of_layers(self):
        self.accepts("sky", ["FEW010 SCT010", "SCT010 FEW011", "BKN010 BKN010", "FEW300 OVC300"])
        self.refuses("sky", ["FEW010 SCT009", "FEW300 SCT000", "FEW010 SCT020 BKN019", "FEW010 SCT020 BKN010"])

    def test_number_of_layers(self):
        self.accepts("sky", [" ".join(["FEW010"] * count) for count in range(1, 5)])
        self.refuses("sky", ["", " ".join(["FEW010"] * 5), "FEW010 FEW010 FEW010 FEW010 OVC010"])

    def test_no_layer_behind_overcast(self):
        self.accepts("sky", ["FEW010 SCT010 BKN010 OVC010", "OVC010CB"])
        self.refuses("sky", ["OVC010 FEW020", "OVC010 OVC010", "FEW010 OVC020 BKN030", "OVC010CB BKN020"])


class DegreesAndPressure(RefusalCase):
    def test_every_pair_of_degrees(self):
        def told(degree):
            return f"M{-degree:02}" if degree < 0 else f"{degree:02}"

        for upper in range(-62, 63):
            for lower in range(-62, 63):
                text = text_of(degrees=f"{told(upper)}/{told(lower)}")
                fits = -60 <= lower <= upper <= 60
                self.assertEqual(read(bytes_of(text)) != REFUSED, fits, text)

    def test_words_of_no_degrees(self):
        self.refuses("degrees", ["M00/M00", "00/M00", "M00/M01", "10/M00", "10/", "/05", "/", "1005", "10/5", "1/05",
                                 "010/05", "10/005", "10/05/01", "10//05", "-1/-2", "+10/05", "M1/M2", "MM1/M02",
                                 "M/M", "10/M", "10M/05", "AA/BB", "//", "10 05", "M001/M02", "99/99"])

    def test_pressure(self):
        self.accepts("pressure", ["Q0850", "Q1100"])
        self.refuses("pressure", ["Q0849", "Q1101", "Q0000", "Q9999", "Q850", "Q01013", "Q101", "1013", "A1013",
                                  "QQ013", "Q", "Q-850", "Q10A3", "Q1013Q", "Q//// ", "Q1013 Q1013"])


class Trend(RefusalCase):
    def test_nosig(self):
        self.refuses("trend", ["NOSIG NOSIG", "NOSIG BECMG NSC", "BECMG NSC NOSIG", "BECMG NOSIG", "NOSI", "NOSIGG",
                               "NOSIG RA", "FM1200 NOSIG", "NOSIG TL1200", "RMK", "WS", "CAVOK", "18010KT"])

    def test_number_of_changes(self):
        self.accepts("trend", [" ".join(["TEMPO NSW"] * count) for count in range(1, 4)])
        self.refuses("trend", [" ".join(["TEMPO NSW"] * 4), "BECMG NSC TEMPO NSW BECMG NSC TEMPO NSW"])

    def test_a_change_of_nothing(self):
        self.refuses("trend", ["BECMG", "TEMPO", "BECMG FM1200", "TEMPO TL1200", "TEMPO FM1200 TL1300",
                               "BECMG TEMPO NSW", "BECMG NSW TEMPO", "BECMG FM1200 TEMPO NSW", "TEMPO BECMG"])

    def test_words_of_no_change(self):
        self.refuses("trend", ["BECM NSW", "BECMGG NSW", "TEMP NSW", "TEMPOO NSW", "PROB30 NSW", "NSW", "FM1200 NSW",
                               "INTER NSW", "BECMGNSW", "TEMPO RMK", "TEMPO NSW RMK", "TEMPO 10/05", "TEMPO Q1013"])

    def test_times(self):
        self.accepts("trend", ["TEMPO FM0000 NSW", "TEMPO FM2359 NSW", "TEMPO TL0000 NSW", "TEMPO TL2359 NSW"])
        for mark in ("FM", "TL"):
            self.refuses("trend", [f"TEMPO {mark}{rest} NSW" for rest in (
                "2400", "0060", "2360", "9900", "0099", "120", "12000", "", "1200Z", "12", "AAAA", "-100", "12 00",
                "12:0")])
        self.refuses("trend", ["TEMPO TL1300 FM1200 NSW", "TEMPO FM1200 FM1200 NSW", "TEMPO TL1200 TL1200 NSW",
                               "TEMPO AT1200 NSW", "FM1200 TEMPO NSW", "TEMPO NSW FM1200", "TEMPO NSW TL1200",
                               "TEMPO FM1200TL1300 NSW", "TEMPO MF1200 NSW", "TEMPO 1200 1300 NSW"])

    def test_changed_wind(self):
        self.refuses("trend", ["TEMPO 18010KT 150V210", "TEMPO 18010KT 150V210 3000", "TEMPO 150V210", "TEMPO 00010KT",
                               "TEMPO 18010G10KT", "TEMPO VRB00KT", "TEMPO 18010KT 18010KT", "TEMPO 18000KT"])

    def test_changed_sight(self):
        self.refuses("trend", ["TEMPO 0025", "TEMPO 0850", "TEMPO 5500", "TEMPO 9900", "TEMPO 10000", "TEMPO 3000 3000",
                               "TEMPO CAVOK CAVOK", "TEMPO 3000 CAVOK", "TEMPO CAVOK 3000"])

    def test_changed_cavok_has_neither_weather_nor_sky(self):
        self.accepts("trend", ["BECMG CAVOK", "BECMG 18010KT CAVOK", "BECMG CAVOK TEMPO RA FEW010"])
        self.refuses("trend", ["BECMG CAVOK " + word for word in ("NSW", "RA", "NSC", "VV001", "FEW010", "RA NSC")])

    def test_changed_weather_is_one_word(self):
        self.refuses("trend", ["TEMPO RA BR", "TEMPO RA NSW", "TEMPO NSW RA", "TEMPO NSW NSW", "TEMPO XX", "TEMPO -FG",
                               "TEMPO RABR", "TEMPO -NSW", "TEMPO NSWW"])

    def test_changed_sky(self):
        self.refuses("trend", ["TEMPO NSC NSC", "TEMPO VV101", "TEMPO FEW301", "TEMPO FEW010 SCT009",
                               "TEMPO OVC010 BKN010", "TEMPO NSC FEW010", "TEMPO " + " ".join(["FEW010"] * 5)])

    def test_order_of_changed_things(self):
        words = ["18010KT", "3000", "RA", "NSC"]
        self.accepts("trend", ["TEMPO " + " ".join(words)])
        for one in range(4):
            for other in range(one):
                self.refuses("trend", [f"TEMPO {words[one]} {words[other]}"])


if __name__ == "__main__":
    unittest.main()
