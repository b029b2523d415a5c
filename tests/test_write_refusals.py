"""write: the edges of each number, and lists that are not the numbers of a report."""

import unittest

from tests.samples import bytes_of, numbers_of, text_of
from weathercode.reports import read, write

REFUSED = [-22]
CHANGE = (2, -1, -1, 0, 500, -1, -1)
FULL = numbers_of(
    wind=(180, 10, 20, 150, 210), weather=(2, 0, 6, 2, 2, 3, 1, 0, 1, 8), sky=(2, 2, 1, 10, 1, 4, 20, 0),
    trend=(2, 2, 1, 750, 825, 1, 240, 15, 27, 3000, 1, 2, 7, 1, 2, 2, 1, 3, 15, 2, 2, -1, -1, 0, -1, 0, 1, 2))
WHOLE = (
    numbers_of(), FULL, numbers_of(sight=10000), numbers_of(sky=(1, 5), trend=(1, 0)),
    numbers_of(weather=(1, 1, 7, 0), trend=(2, 1, *CHANGE)))


class WriteCase(unittest.TestCase):
    def refuses_lists(self, lists):
        for numbers in lists:
            with self.subTest(numbers=numbers):
                self.assertEqual(write(numbers), REFUSED)

    def refuses(self, part, choices):
        self.refuses_lists([numbers_of(**{part: numbers}) for numbers in choices])

    def accepts_lists(self, lists):
        for numbers in lists:
            with self.subTest(numbers=numbers):
                answer = write(numbers)
                self.assertGreater(answer[0], 0)
                self.assertEqual(len(answer), answer[0] + 1)
                self.assertEqual(read(answer[1:]), [len(numbers)] + numbers)

    def accepts(self, part, choices):
        self.accepts_lists([numbers_of(**{part: numbers}) for numbers in choices])

    def trends(self, changes):
        return [(2, 1, *change) for change in changes]

    def refuses_changes(self, changes):
        self.refuses("trend", self.trends(changes))

    def accepts_changes(self, changes):
        self.accepts("trend", self.trends(changes))


class Length(WriteCase):
    def test_256_numbers_and_257(self):
        for size in (256, 257, 300):
            self.refuses_lists([[65] * size, [0] * size, [-1] * size, [-32768] * size, [32767] * size])
            for numbers in WHOLE:
                padding = size - len(numbers)
                self.refuses_lists([numbers + [0] * padding, numbers + [-1] * padding, [0] * padding + numbers])

    def test_more_than_256_numbers_that_would_go_on_as_told(self):
        many = numbers_of(trend=(2, 35, *CHANGE * 35))
        self.assertGreater(len(many), 256)
        self.refuses_lists([many, numbers_of(trend=(2, 3, *CHANGE * 35)), FULL * 4, numbers_of() * 13])

    def test_nothing(self):
        self.refuses_lists([[], [0], [65], [65, 65, 65, 65]])

    def test_too_few(self):
        for numbers in WHOLE:
            self.accepts_lists([numbers])
            self.refuses_lists([numbers[:size] for size in range(len(numbers))])
            self.refuses_lists([numbers[start:] for start in range(1, len(numbers))])

    def test_one_too_many_behind_the_last(self):
        for numbers in WHOLE:
            self.refuses_lists([numbers + [more] for more in (-32768, -1, 0, 1, 2, 999, 10000, 32767)])
            self.refuses_lists([numbers + numbers, numbers + [0, 0], [0] + numbers])

    def test_numbers_far_out_at_every_place(self):
        for numbers in WHOLE:
            for place in range(len(numbers)):
                self.refuses_lists([numbers[:place] + [far] + numbers[place + 1:]
                                    for far in (-32768, -10000, -999, -61, 10001, 32767)])


class StationAndMoment(WriteCase):
    def test_station(self):
        self.accepts("station", [(65, 65, 65, 65), (90, 90, 90, 90)])
        for place in range(4):
            for byte in (0, 32, 48, 57, 64, 91, 97, 122, 255, 256, 321, -65):
                letters = [76, 79, 87, 87]
                letters[place] = byte
                self.refuses("station", [letters])
        self.refuses("station", [(76, 79, 87), (76, 79, 87, 87, 87)])

    def test_moment(self):
        self.accepts("moment", [(1, 0, 0), (31, 23, 59)])
        self.refuses("moment", [(0, 12, 20), (32, 12, 20), (-1, 12, 20), (101, 12, 20), (16, -1, 20), (16, 24, 20),
                                (16, 100, 20), (16, 12, -1), (16, 12, 60), (16, 12, 100), (16, 24, 0)])


class Wind(WriteCase):
    def test_degrees(self):
        self.accepts("wind", [(10, 1, 0, 999, 999), (360, 99, 0, 999, 999), (999, 1, 0, 999, 999),
                              (0, 0, 0, 999, 999)])
        self.refuses("wind", [(degrees, 10, 0, 999, 999) for degrees in (
            0, -10, -1, 1, 5, 9, 11, 15, 355, 361, 370, 990, 998, 1000, 10010)])

    def test_speed(self):
        self.accepts("wind", [(180, 1, 0, 999, 999), (180, 99, 0, 999, 999)])
        self.refuses("wind", [(180, speed, 0, 999, 999) for speed in (-1, -10, 0, 100)])

    def test_speed_0_only_from_0_and_from_0_only_speed_0(self):
        self.refuses("wind", [(0, 1, 0, 999, 999), (0, 99, 0, 999, 999), (10, 0, 0, 999, 999), (360, 0, 0, 999, 999),
                              (999, 0, 0, 999, 999)])

    def test_gusts_are_more_than_the_speed(self):
        self.accepts("wind", [(180, 1, 2, 999, 999), (180, 98, 99, 999, 999), (999, 10, 11, 999, 999)])
        self.refuses("wind", [(180, 10, gusts, 999, 999) for gusts in (-1, 1, 9, 10, 100, -11)])
        self.refuses("wind", [(180, 99, 99, 999, 999), (180, 99, 100, 999, 999), (999, 10, 10, 999, 999)])

    def test_no_gusts_where_the_speed_is_0(self):
        self.refuses("wind", [(0, 0, 1, 999, 999), (0, 0, 99, 999, 999), (999, 0, 1, 999, 999), (10, 0, 1, 999, 999)])

    def test_sector(self):
        self.accepts("wind", [(180, 10, 0, 10, 20), (180, 10, 0, 360, 350), (180, 10, 20, 10, 360)])
        for wrong in (-10, 0, 5, 9, 15, 361, 365, 370, 990, 1000):
            self.refuses("wind", [(180, 10, 0, wrong, 210), (180, 10, 0, 150, wrong), (180, 10, 0, wrong, wrong)])

    def test_sector_of_two_different_ones(self):
        self.refuses("wind", [(180, 10, 0, degrees, degrees) for degrees in (10, 180, 360)])

    def test_only_one_of_the_two_999(self):
        self.refuses("wind", [(180, 10, 0, 999, 210), (180, 10, 0, 150, 999), (999, 10, 0, 999, 210),
                              (0, 0, 0, 150, 999), (180, 10, 0, 999, 0), (180, 10, 0, 0, 999)])

    def test_no_sector_beside_a_variable_or_still_wind(self):
        self.refuses("wind", [(999, 10, 0, 150, 210), (999, 10, 20, 150, 210), (0, 0, 0, 150, 210)])


class Sight(WriteCase):
    def test_metres(self):
        self.accepts("sight", [0, 50, 750, 800, 4900, 5000, 9000, 9999])
        self.refuses("sight", [-10000, -9999, -100, -50, -1, 1, 49, 51, 749, 751, 799, 850, 4950, 4999, 5100, 5500,
                               8999, 9001, 9500, 9900, 9998, 10001, 10100, 11000])

    def test_no_weather_and_no_sky_beside_cavok(self):
        self.accepts_lists([numbers_of(sight=10000)])
        self.refuses_lists([numbers_of(sight=10000, weather=weather) for weather in (
            (1, 1, 0, 1, 2), (1, 1, 7, 0), (2, 1, 0, 1, 2, 1, 0, 1, 8), (-1,), ())])
        self.refuses_lists([numbers_of(sight=10000, sky=sky) for sky in (
            (1, 0), (1, 100), (2, 1, 1, 10, 0), (2, 0), (-1,), ())])
        self.refuses_lists([numbers_of(sight=10000, weather=(1, 1, 0, 1, 2), sky=(1, 5)),
                            numbers_of(sight=10000, weather=(), sky=()),
                            numbers_of(sight=10000, weather=(-1,), sky=(-1,))])


class DegreesAndPressure(WriteCase):
    def test_degrees(self):
        self.accepts("degrees", [(60, 60), (-60, -60), (60, -60), (0, 0), (0, -1), (-1, -1), (1, 0)])
        self.refuses("degrees", [(61, 0), (61, 61), (60, -61), (-61, -61), (100, 0), (0, -100), (-61, -62)])

    def test_the_second_is_not_above_the_first(self):
        self.refuses("degrees", [(0, 1), (-1, 0), (-2, -1), (-60, 60), (59, 60), (-60, -59)])

    def test_pressure(self):
        self.accepts("pressure", [850, 851, 999, 1000, 1099, 1100])
        self.refuses("pressure", [849, 1101, 0, -850, -1013, 9999, 10000])


class Weather(WriteCase):
    def refuses_words(self, words):
        self.refuses("weather", [(1, *word) for word in words])
        self.refuses("weather", [(2, 1, 0, 1, 2, *word) for word in words])
        self.refuses_changes([(2, -1, -1, 0, -1, 1, *word, -1) for word in words])

    def accepts_words(self, words):
        self.accepts("weather", [(1, *word) for word in words])
        self.accepts_changes([(2, -1, -1, 0, -1, 1, *word, -1) for word in words])

    def test_number_of_words(self):
        word = (1, 0, 1, 2)
        self.accepts("weather", [(count, *word * count) for count in range(4)])
        self.refuses("weather", [(4, *word * 4), (-1,), (-1, *word), (-32768, *word)])
        for count in range(4):
            self.refuses("weather", [(count, *word * other) for other in range(5) if other != count])

    def test_strength(self):
        self.accepts_words([(0, 0, 1, 2), (1, 0, 1, 2), (2, 0, 1, 2)])
        self.refuses_words([(-1, 0, 1, 2), (3, 0, 1, 2)])

    def test_manner(self):
        self.accepts_words([(1, 0, 1, 9), (1, 1, 1, 9), (1, 8, 1, 9)])
        self.refuses_words([(1, -1, 1, 9), (1, 9, 1, 9), (1, 9, 1, 2), (1, -1, 1, 2), (1, -2, 0), (1, 9, 0)])

    def test_kinds(self):
        self.accepts_words([(1, 0, 1, 1), (1, 0, 1, 19)])
        self.refuses_words([(1, 0, 1, 0), (1, 0, 1, 20), (1, 0, 1, -1), (1, 0, 2, 2, 0), (1, 0, 2, 2, 20),
                            (1, 0, 2, 2, -1), (1, 0, 3, 2, 3, 0)])

    def test_number_of_kinds(self):
        self.accepts_words([(1, 0, 1, 1), (1, 0, 2, 1, 2), (1, 0, 3, 1, 2, 3)])
        self.refuses_words([(1, 0, 4, 1, 2, 3, 4), (1, 7, 4, 1, 2, 3, 4), (1, 0, -1), (1, 0, -1, 2), (1, 7, -1),
                            (1, 7, -3), (1, 0, 2, 1), (1, 0, 1, 1, 2), (1, 0, 0, 2), (1, 7, 0, 2), (1, 7, 1)])

    def test_one_kind_at_least_but_at_ts(self):
        self.accepts_words([(1, 7, 0)])
        self.refuses_words([(1, manner, 0) for manner in (0, 1, 2, 3, 4, 5, 6, 8)])

    def test_kinds_are_all_different(self):
        self.refuses_words([(1, 0, 2, 2, 2), (1, 0, 3, 2, 3, 2), (1, 0, 3, 2, 3, 3), (1, 0, 3, 2, 2, 3),
                            (1, 7, 2, 2, 2), (1, 6, 2, 3, 3), (1, 8, 2, 1, 1), (0, 0, 2, 2, 2)])

    def test_light_or_heavy_only_if_the_first_kind_is_of_rain(self):
        self.accepts_words([(strength, 0, 1, kind) for strength in (0, 2) for kind in range(1, 8)])
        for strength in (0, 2):
            self.refuses_words([(strength, 0, 1, kind) for kind in range(8, 20)])
            self.refuses_words([(strength, 7, 0), (strength, 8, 1, 9), (strength, 1, 1, 9), (strength, 4, 1, 12),
                                (strength, 5, 1, 13)])

    def test_more_than_one_kind_only_if_all_are_of_rain(self):
        self.refuses_words([(1, 0, 2, 2, 8), (1, 0, 2, 8, 2), (1, 0, 2, 8, 9), (1, 0, 3, 2, 3, 8), (1, 0, 3, 2, 8, 3),
                            (1, 0, 3, 8, 2, 3), (1, 7, 2, 2, 9), (1, 8, 2, 1, 9), (1, 6, 2, 2, 8)])

    def test_mi_bc_pr_only_with_fg_alone(self):
        for manner in (1, 2, 3):
            self.accepts_words([(1, manner, 1, 9)])
            self.refuses_words([(1, manner, 1, kind) for kind in range(1, 20) if kind != 9])
            self.refuses_words([(1, manner, 2, 9, 2), (1, manner, 2, 2, 9), (1, manner, 2, 2, 3)])

    def test_dr_bl_only_with_sn_du_sa_alone(self):
        for manner in (4, 5):
            self.accepts_words([(1, manner, 1, kind) for kind in (3, 12, 13)])
            self.refuses_words([(1, manner, 1, kind) for kind in range(1, 20) if kind not in (3, 12, 13)])
            self.refuses_words([(1, manner, 2, 3, 2), (1, manner, 2, 2, 3), (1, manner, 2, 12, 13)])

    def test_sh_only_with_rain_but_not_dz(self):
        self.accepts_words([(1, 6, 1, kind) for kind in range(2, 8)])
        self.refuses_words([(1, 6, 1, kind) for kind in (1, *range(8, 20))])
        self.refuses_words([(1, 6, 2, 1, 2), (1, 6, 2, 2, 1), (1, 6, 3, 2, 3, 1)])

    def test_ts_only_with_rain_or_alone(self):
        self.accepts_words([(1, 7, 1, kind) for kind in range(1, 8)])
        self.refuses_words([(1, 7, 1, kind) for kind in range(8, 20)])

    def test_fz_only_with_dz_ra_first_or_fg_alone(self):
        self.accepts_words([(1, 8, 1, 1), (1, 8, 1, 2), (1, 8, 1, 9), (1, 8, 2, 2, 3), (1, 8, 3, 1, 4, 7)])
        self.refuses_words([(1, 8, 1, kind) for kind in range(1, 20) if kind not in (1, 2, 9)])
        self.refuses_words([(1, 8, 2, 3, 2), (1, 8, 2, 9, 2), (1, 8, 2, 2, 9)])


class Sky(WriteCase):
    def refuses_skies(self, skies):
        self.refuses("sky", skies)
        self.refuses_changes([(2, -1, -1, 0, 500, -1, *sky) for sky in skies])

    def accepts_skies(self, skies):
        self.accepts("sky", skies)
        self.accepts_changes([(2, -1, -1, 0, 500, -1, *sky) for sky in skies])

    def test_kinds_of_sky(self):
        self.accepts_skies([(0,), (1, 5), (2, 1, 1, 10, 0)])
        self.refuses_skies([(3,), (3, 5), (3, 1, 1, 10, 0), (-2,), (0, 5), (1,), (2,), (1, 1, 1, 10, 0)])
        self.refuses("sky", [(-1,), ()])

    def test_upright_sight(self):
        self.accepts_skies([(1, 0), (1, 100)])
        self.refuses_skies([(1, -1), (1, 101), (1, 300), (1, 999)])

    def test_layers(self):
        self.accepts_skies([(2, 1, 1, 0, 0), (2, 1, 4, 300, 2), (2, 1, 2, 10, 1), (2, 1, 4, 20, 1)])
        self.refuses_skies([(2, 1, 0, 10, 0), (2, 1, 5, 10, 0), (2, 1, -1, 10, 0), (2, 1, 1, -1, 0),
                            (2, 1, 1, 301, 0), (2, 1, 1, 999, 0), (2, 1, 1, 10, -1), (2, 1, 1, 10, 3)])

    def test_number_of_layers(self):
        layer = (1, 10, 0)
        self.accepts_skies([(2, count, *layer * count) for count in range(1, 5)])
        self.refuses_skies([(2, 0), (2, 5, *layer * 5), (2, -1), (2, -1, *layer), (2, 0, *layer)])
        for count in range(1, 5):
            self.refuses_skies([(2, count, *layer * other) for other in range(6) if other != count])

    def test_none_lower_than_the_one_before(self):
        self.accepts_skies([(2, 2, 1, 10, 0, 2, 10, 0), (2, 2, 1, 10, 0, 2, 11, 0), (2, 2, 3, 300, 0, 4, 300, 0)])
        self.refuses_skies([(2, 2, 1, 10, 0, 2, 9, 0), (2, 2, 1, 300, 0, 2, 0, 0),
                            (2, 3, 1, 10, 0, 2, 20, 0, 3, 19, 0), (2, 3, 1, 10, 0, 2, 20, 0, 3, 10, 0)])

    def test_none_behind_overcast(self):
        self.accepts_skies([(2, 4, 1, 10, 0, 2, 10, 0, 3, 10, 0, 4, 10, 0)])
        self.refuses_skies([(2, 2, 4, 10, 0, cover, 20, 0) for cover in (1, 2, 3, 4)])
        self.refuses_skies([(2, 3, 1, 10, 0, 4, 20, 1, 3, 30, 0)])


class Trend(WriteCase):
    def test_kinds_of_trend(self):
        self.accepts("trend", [(0, 0), (1, 0), (2, 1, *CHANGE)])
        self.refuses("trend", [(-1, 0), (3, 0), (-1, 1, *CHANGE), (3, 1, *CHANGE), (0,), (1,), (2,), ()])

    def test_changes_where_none_are_told(self):
        for kind in (0, 1):
            self.refuses("trend", [(kind, count, *CHANGE * count) for count in (1, 2, 3)])
            self.refuses("trend", [(kind, 0, *CHANGE), (kind, 1), (kind, -1), (kind, 2), (kind, *CHANGE)])

    def test_no_change_where_changes_are_told(self):
        self.refuses("trend", [(2, 0), (2, 0, *CHANGE), (2, -1), (2, -1, *CHANGE), (2, *CHANGE)])

    def test_number_of_changes(self):
        self.accepts("trend", [(2, count, *CHANGE * count) for count in (1, 2, 3)])
        self.refuses("trend", [(2, 4, *CHANGE * 4), (2, 5, *CHANGE * 5)])
        for count in (1, 2, 3):
            self.refuses("trend", [(2, count, *CHANGE * other) for other in range(5) if other != count])


class Changes(WriteCase):
    def test_manner(self):
        self.accepts_changes([(1, *CHANGE[1:]), (2, *CHANGE[1:])])
        self.refuses_changes([(0, *CHANGE[1:]), (3, *CHANGE[1:]), (-1, *CHANGE[1:])])

    def test_times(self):
        for minutes in (-1, 0, 1, 59, 60, 1439):
            self.accepts_changes([(2, minutes, -1, *CHANGE[3:]), (2, -1, minutes, *CHANGE[3:])])
        for minutes in (-2, 1440, 2400, 9999):
            self.refuses_changes([(2, minutes, -1, *CHANGE[3:]), (2, -1, minutes, *CHANGE[3:])])

    def test_a_change_of_nothing(self):
        self.refuses_changes([(2, -1, -1, 0, -1, -1, -1), (1, 750, 825, 0, -1, -1, -1)])
        self.refuses("trend", [(2, 2, *CHANGE, 2, -1, -1, 0, -1, -1, -1)])

    def test_wind(self):
        rest = (-1, -1, -1)
        self.accepts_changes([(2, -1, -1, 1, *wind, *rest) for wind in (
            (0, 0, 0), (10, 1, 0), (360, 98, 99), (999, 99, 0), (180, 10, 11))])
        self.refuses_changes([(2, -1, -1, 1, *wind, *rest) for wind in (
            (0, 1, 0), (180, 0, 0), (999, 0, 0), (0, 0, 1), (180, 10, 10), (180, 10, 9), (185, 10, 0), (370, 10, 0),
            (180, 100, 0), (180, 99, 100), (-10, 10, 0), (180, -1, 0), (180, 10, -1), (1000, 10, 0))])
        self.refuses_changes([(2, -1, -1, told, 180, 10, 0, *rest) for told in (-1, 0, 2)])
        self.refuses_changes([(2, -1, -1, told, 500, -1, -1) for told in (-1, 1, 2)])

    def test_no_sector(self):
        self.refuses_changes([(2, -1, -1, 1, 180, 10, 0, 999, 999, -1, -1, -1),
                              (2, -1, -1, 1, 180, 10, 0, 150, 210, -1, -1, -1),
                              (2, -1, -1, 1, 180, 10, 0, 150, 210, 500, -1, -1)])

    def test_sight(self):
        self.accepts_changes([(2, -1, -1, 0, metres, -1, -1) for metres in (
            0, 750, 800, 4900, 5000, 9000, 9999, 10000)])
        self.refuses_changes([(2, -1, -1, 0, metres, -1, -1) for metres in (
            -2, -50, 1, 799, 850, 4950, 5500, 9998, 10001)])

    def test_neither_weather_nor_sky_with_cavok(self):
        self.accepts_changes([(2, -1, -1, 0, 10000, -1, -1), (2, -1, -1, 1, 180, 10, 0, 10000, -1, -1)])
        for weather in ((0,), (1, 1, 0, 1, 2)):
            self.refuses_changes([(2, -1, -1, 0, 10000, *weather, -1), (2, -1, -1, 0, 10000, *weather, 0)])
        self.refuses_changes([(2, -1, -1, 0, 10000, -1, *sky) for sky in ((0,), (1, 5), (2, 1, 1, 10, 0))])

    def test_weather_is_one_word_at_most(self):
        word = (1, 0, 1, 2)
        self.accepts_changes([(2, -1, -1, 0, -1, 0, -1), (2, -1, -1, 0, -1, 1, *word, -1)])
        for count in (2, 3):
            self.refuses_changes([(2, -1, -1, 0, -1, count, *word * count, -1), (2, -1, -1, 0, -1, count, *word, -1)])
        self.refuses_changes([(2, -1, -1, 0, -1, 0, *word, -1), (2, -1, -1, 0, -1, -1, *word, -1),
                              (2, -1, -1, 0, -1, -2, -1), (2, -1, -1, 0, 500, -2, -1), (2, -1, -1, 0, -1, 1, -1)])

    def test_sky(self):
        self.refuses_changes([(2, -1, -1, 0, 500, -1, -2), (2, -1, -1, 0, 500, -1), (2, -1, -1, 0, 500, -1, -1, 0)])

    def test_each_change_is_asked(self):
        wrong = (2, -1, -1, 0, 501, -1, -1)
        self.accepts("trend", [(2, 3, *CHANGE * 3)])
        self.refuses("trend", [(2, 3, *wrong, *CHANGE * 2), (2, 3, *CHANGE, *wrong, *CHANGE),
                               (2, 3, *CHANGE * 2, *wrong)])


class WholeText(unittest.TestCase):
    def test_text_of_the_full_report(self):
        self.assertEqual(write(FULL)[1:], bytes_of(text_of(
            wind="18010G20KT 150V210", weather="-SHRASN BR", sky="FEW010CB OVC020",
            trend="BECMG FM1230 TL1345 24015G27KT 3000 +TSRA BKN015TCU TEMPO NSW VV002")))


if __name__ == "__main__":
    unittest.main()
