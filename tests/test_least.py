"""least: the least sight and the least ceiling there may be, minute by minute."""

import itertools
import unittest

from tests.samples import bytes_of, text_of
from weathercode.reports import least

LAST = 1440


class LeastCase(unittest.TestCase):
    def tells(self, text, minute, view):
        with self.subTest(minute=minute, text=text):
            self.assertEqual(least(minute, bytes_of(text)), [0, *view])

    def steps(self, trend, steps, **parts):
        """Each view is told from its minute on, till the minute ahead of the next one's."""
        text = text_of(**{"sight": "8000", "sky": "BKN020", "trend": trend, **parts})
        starts = [start for start, view in steps] + [LAST + 1]
        for (start, view), behind in zip(steps, starts[1:]):
            for minute in sorted({start, start + 1, (start + behind) // 2, behind - 2, behind - 1}):
                if start <= minute < behind:
                    self.tells(text, minute, view)


class WithoutChanges(LeastCase):
    def stays(self, view, **parts):
        for minute in (0, 1, 119, 120, 121, 240, 241, 700, 1439, 1440):
            self.tells(text_of(**parts), minute, view)

    def test_sight_as_told(self):
        for metres in (0, 50, 750, 800, 4900, 5000, 9000, 9999):
            self.stays((metres, 999), sight=f"{metres:04}", sky="NSC")

    def test_cavok(self):
        self.stays((9999, 999), sight="CAVOK", sky="")

    def test_sky_without_a_ceiling(self):
        for sky in ("NSC", "FEW000", "SCT300", "FEW001CB", "SCT002TCU", "FEW001 SCT002", "FEW001 FEW001 SCT001 SCT002"):
            self.stays((8000, 999), sky=sky)

    def test_upright_sight(self):
        for hundreds in (0, 1, 99, 100):
            self.stays((8000, hundreds), sky=f"VV{hundreds:03}")

    def test_one_layer(self):
        for cover, hundreds, cloud in itertools.product(("BKN", "OVC"), (0, 1, 299, 300), ("", "CB", "TCU")):
            self.stays((8000, hundreds), sky=f"{cover}{hundreds:03}{cloud}")

    def test_the_first_of_bkn_or_ovc(self):
        for sky, ceiling in (("FEW005 BKN010", 10), ("SCT005 OVC010", 10), ("FEW005 SCT006CB BKN007 OVC008", 7),
                             ("BKN010 OVC020", 10), ("BKN010 FEW020 OVC030", 10), ("BKN010 SCT020", 10),
                             ("FEW001 SCT002 FEW003 OVC004", 4), ("BKN003 BKN004 BKN005 BKN006", 3),
                             ("FEW010 OVC010", 10), ("SCT000 BKN000", 0)):
            self.stays((8000, ceiling), sky=sky)

    def test_weather_and_nosig_change_nothing(self):
        self.stays((300, 1), sight="0300", weather="FG", sky="VV001", trend="NOSIG")
        self.stays((1500, 12), sight="1500", weather="-RA BR TS", sky="BKN012", wind="24015G27KT 210V280")

    def test_the_time_of_the_report_does_not_matter(self):
        for moment in ("010000Z", "312359Z", "161220Z"):
            self.stays((8000, 999), moment=moment)


class TimesOfAChange(LeastCase):
    def at_times(self, times, begins, ends, moment="161220Z"):
        """Worse from the beginning to the end; better is seen beside what is left, so never."""
        ahead = [(0, (8000, 20))] if begins > 0 else []
        behind = [(ends + 1, (8000, 20))] if ends < LAST else []
        self.steps(f"TEMPO {times}0500 OVC003", ahead + [(begins, (500, 3))] + behind, moment=moment)
        self.steps(f"TEMPO {times}CAVOK", [(0, (8000, 20))], moment=moment)

    def becoming(self, times, begins, ends, moment="161220Z"):
        """Worse from the beginning on; better only behind the end."""
        ahead = [(0, (8000, 20))] if begins > 0 else []
        behind = [(ends + 1, (9999, 999))] if ends < LAST else []
        self.steps(f"BECMG {times}0500 OVC003", ahead + [(begins, (500, 3))], moment=moment)
        self.steps(f"BECMG {times}CAVOK", [(0, (8000, 20))] + behind, moment=moment)

    def both(self, times, begins, ends, **parts):
        self.at_times(times, begins, ends, **parts)
        self.becoming(times, begins, ends, **parts)

    def test_from_and_till(self):
        self.both("FM1250 TL1330 ", 30, 70)
        self.both("FM1221 TL1222 ", 1, 2)
        self.both("FM1300 TL1300 ", 40, 40)

    def test_from_alone(self):
        self.both("FM1250 ", 30, 150)
        self.both("FM1221 ", 1, 121)
        self.both("FM1620 ", 240, 360)

    def test_till_alone(self):
        self.both("TL1330 ", 0, 70)
        self.both("TL1221 ", 0, 1)
        self.both("TL1219 ", 0, 1439)

    def test_neither(self):
        self.both("", 0, 120)
        for moment in ("010000Z", "312359Z", "162200Z", "162201Z"):
            self.both("", 0, 120, moment=moment)

    def test_the_very_time_of_the_report(self):
        self.both("FM1220 TL1330 ", 0, 70)
        self.both("FM1220 ", 0, 120)
        self.both("FM1220 TL1220 ", 0, 0)
        self.both("TL1220 ", 0, 0)

    def test_times_of_the_next_day(self):
        self.both("FM1219 ", 1439, 1559)
        self.both("FM1200 TL1210 ", 1420, 1430)
        self.both("FM0000 TL0100 ", 700, 760)
        self.both("FM1300 TL1219 ", 40, 1439)
        self.both("FM0000 ", 700, 820)
        self.both("TL0000 ", 0, 700)

    def test_over_midnight(self):
        self.both("FM2330 TL0030 ", 30, 90, moment="162300Z")
        self.both("FM0000 TL0001 ", 60, 61, moment="162300Z")
        self.both("FM2359 ", 59, 179, moment="162300Z")
        self.both("FM0010 ", 70, 190, moment="162300Z")
        self.both("TL0030 ", 0, 90, moment="162300Z")
        self.both("FM0000 TL0000 ", 1, 1, moment="312359Z")
        self.both("FM0000 TL0000 ", 0, 0, moment="010000Z")
        self.both("FM2358 ", 1438, 1558, moment="010000Z")

    def test_at_times_with_its_end_ahead_of_its_beginning(self):
        for trend in ("TEMPO FM1330 TL1250 0500 OVC003", "TEMPO FM1300 TL1259 0500 OVC003",
                      "TEMPO FM1221 TL1220 0500 OVC003", "TEMPO FM1219 TL1220 0500 OVC003",
                      "TEMPO FM1200 TL1300 0500 OVC003"):
            self.steps(trend, [(0, (8000, 20))])
        self.steps("TEMPO FM0000 TL2359 0500 OVC003", [(0, (8000, 20))], moment="312359Z")

    def test_becoming_with_its_end_ahead_of_its_beginning(self):
        for times, begins in (("FM1330 TL1250", 70), ("FM1300 TL1259", 40), ("FM1221 TL1220", 1),
                              ("FM1219 TL1220", 1439), ("FM1200 TL1300", 1420)):
            self.steps(f"BECMG {times} 0500 OVC003", [(0, (8000, 20)), (begins, (500, 3))])
            self.steps(f"BECMG {times} CAVOK", [(0, (8000, 20)), (begins, (9999, 999))])


class WhatIsChanged(LeastCase):
    def within(self, told, during, behind, **parts):
        """A change from minute 30 to 70: the views during it, and behind it where it was becoming."""
        ahead = [(0, (8000, 20))]
        self.steps(f"TEMPO FM1250 TL1330 {told}", ahead + [(30, during), (71, (8000, 20))], **parts)
        self.steps(f"BECMG FM1250 TL1330 {told}", ahead + [(30, during), (71, behind)], **parts)

    def test_sight_alone(self):
        self.within("0500", (500, 20), (500, 20))
        self.within("0000", (0, 20), (0, 20))
        self.within("9999", (8000, 20), (9999, 20))

    def test_sky_alone(self):
        self.within("OVC003", (8000, 3), (8000, 3))
        self.within("VV000", (8000, 0), (8000, 0))
        self.within("BKN100", (8000, 20), (8000, 100))
        self.within("FEW001 SCT002 BKN003", (8000, 3), (8000, 3))

    def test_sky_without_a_ceiling(self):
        for sky in ("NSC", "FEW001", "SCT001 SCT010CB"):
            self.within(sky, (8000, 20), (8000, 999))
            self.within(f"0500 {sky}", (500, 20), (500, 999))

    def test_cavok(self):
        self.within("CAVOK", (8000, 20), (9999, 999))
        self.within("24015KT CAVOK", (8000, 20), (9999, 999))

    def test_wind_or_weather_alone(self):
        for told in ("24015G27KT", "00000KT", "NSW", "FG", "+TSRA", "VRB05KT FZFG"):
            self.within(told, (8000, 20), (8000, 20))

    def test_with_wind_and_weather(self):
        self.within("24015G27KT 0300 FG VV001", (300, 1), (300, 1))
        self.within("9999 NSW", (8000, 20), (9999, 20))
        self.within("24015KT RA OVC005", (8000, 5), (8000, 5))

    def test_one_better_and_the_other_worse(self):
        self.within("9999 OVC003", (8000, 3), (9999, 3))
        self.within("0500 NSC", (500, 20), (500, 999))

    def test_the_same_as_it_was(self):
        self.within("8000 BKN020", (8000, 20), (8000, 20))

    def test_of_a_report_with_cavok(self):
        parts = {"sight": "CAVOK", "sky": ""}
        self.steps("TEMPO FM1250 TL1330 0500", [(0, (9999, 999)), (30, (500, 999)), (71, (9999, 999))], **parts)
        self.steps("BECMG FM1250 TL1330 OVC003", [(0, (9999, 999)), (30, (9999, 3))], **parts)
        self.steps("BECMG 9999 NSC", [(0, (9999, 999))], **parts)


class TwoChanges(LeastCase):
    def test_at_times_behind_becoming(self):
        self.steps("BECMG FM1250 TL1330 3000 TEMPO FM1300 TL1400 OVC003",
                   [(0, (8000, 20)), (30, (3000, 20)), (40, (3000, 3)), (101, (3000, 20))])
        self.steps("BECMG TL1230 CAVOK TEMPO TL1240 0500", [(0, (500, 20)), (11, (500, 999)), (21, (9999, 999))])
        self.steps("BECMG TL1240 CAVOK TEMPO TL1230 0500", [(0, (500, 20)), (11, (8000, 20)), (21, (9999, 999))])

    def test_becoming_behind_at_times(self):
        self.steps("TEMPO FM1300 TL1400 OVC003 BECMG FM1250 TL1330 3000",
                   [(0, (8000, 20)), (30, (3000, 20)), (40, (3000, 3)), (101, (3000, 20))])
        self.steps("TEMPO TL1240 0500 OVC003 BECMG TL1230 CAVOK",
                   [(0, (500, 3)), (21, (9999, 999))])

    def test_the_order_tells_what_at_times_is_changed_from(self):
        # Behind a becoming that has ended only its view is changed; ahead of it the report's own.
        self.steps("BECMG TL1230 CAVOK TEMPO 0500", [(0, (500, 20)), (11, (500, 999)), (121, (9999, 999))])
        self.steps("TEMPO 0500 BECMG TL1230 CAVOK", [(0, (500, 20)), (121, (9999, 999))])
        self.steps("BECMG TL1230 0500 TEMPO CAVOK", [(0, (500, 20))])
        self.steps("TEMPO CAVOK BECMG TL1230 0500", [(0, (500, 20))])

    def test_two_becoming_of_one_thing(self):
        self.steps("BECMG FM1250 TL1330 0500 BECMG FM1350 TL1430 3000",
                   [(0, (8000, 20)), (30, (500, 20)), (131, (3000, 20))])
        self.steps("BECMG FM1350 TL1430 3000 BECMG FM1250 TL1330 0500", [(0, (8000, 20)), (30, (500, 20))])
        self.steps("BECMG 3000 BECMG 0500", [(0, (500, 20))])
        self.steps("BECMG 0500 BECMG 3000", [(0, (500, 20)), (121, (3000, 20))])
        self.steps("BECMG TL1230 OVC003 BECMG TL1240 NSC", [(0, (8000, 3)), (21, (8000, 999))])
        self.steps("BECMG TL1240 OVC003 BECMG TL1230 NSC", [(0, (8000, 3)), (11, (8000, 999))])

    def test_two_becoming_of_different_things(self):
        self.steps("BECMG TL1230 0500 BECMG TL1240 OVC003", [(0, (500, 3))])
        self.steps("BECMG TL1230 9999 BECMG TL1240 NSC", [(0, (8000, 20)), (11, (9999, 20)), (21, (9999, 999))])
        self.steps("BECMG FM1250 TL1330 9999 OVC003 BECMG FM1310 TL1350 0500 NSC",
                   [(0, (8000, 20)), (30, (8000, 3)), (50, (500, 3)), (91, (500, 999))])

    def test_two_at_times_of_one_thing(self):
        self.steps("TEMPO FM1250 TL1330 0500 TEMPO FM1310 TL1350 3000",
                   [(0, (8000, 20)), (30, (500, 20)), (71, (3000, 20)), (91, (8000, 20))])
        self.steps("TEMPO FM1310 TL1350 3000 TEMPO FM1250 TL1330 0500",
                   [(0, (8000, 20)), (30, (500, 20)), (71, (3000, 20)), (91, (8000, 20))])

    def test_two_at_times_are_each_of_the_lasting_views(self):
        self.steps("TEMPO TL1230 0500 TEMPO TL1240 OVC003", [(0, (500, 3)), (11, (8000, 3)), (21, (8000, 20))])
        self.steps("TEMPO TL1240 0500 TEMPO TL1230 CAVOK", [(0, (500, 20)), (21, (8000, 20))])

    def test_at_times_ended_leaves_nothing_to_what_comes_behind(self):
        self.steps("TEMPO TL1230 0500 OVC003 BECMG FM1240 TL1250 3000",
                   [(0, (500, 3)), (11, (8000, 20)), (20, (3000, 20))])
        self.steps("TEMPO TL1230 0500 TEMPO FM1240 TL1250 OVC003",
                   [(0, (500, 20)), (11, (8000, 20)), (20, (8000, 3)), (31, (8000, 20))])

    def test_becoming_does_not_change_what_is_besides(self):
        self.steps("TEMPO TL1330 0500 OVC003 BECMG TL1230 CAVOK", [(0, (500, 3)), (71, (9999, 999))])

    def test_becoming_ended_takes_the_views_ahead_of_it_away(self):
        self.steps("BECMG TL1230 9999 BECMG TL1250 NSC", [(0, (8000, 20)), (11, (9999, 20)), (31, (9999, 999))])
        self.steps("BECMG TL1250 9999 NSC BECMG TL1230 3000", [(0, (3000, 20)), (31, (3000, 999))])

    def test_one_that_has_not_begun_counts_for_nothing(self):
        self.steps("BECMG FM1400 TL1500 0000 VV000 TEMPO FM1230 TL1240 0500",
                   [(0, (8000, 20)), (10, (500, 20)), (21, (8000, 20)), (100, (0, 0))])


class ThreeChanges(LeastCase):
    def test_least_sight_and_least_ceiling_from_different_views(self):
        self.steps("TEMPO TL1230 0500 NSC TEMPO TL1240 9999 OVC003", [(0, (500, 3)), (11, (8000, 3)), (21, (8000, 20))])
        self.steps("BECMG TL1230 0500 NSC TEMPO TL1240 9999 OVC003",
                   [(0, (500, 3)), (21, (500, 999))])
        self.steps("BECMG TL1220 0500 BECMG TL1230 9999 OVC003 TEMPO TL1240 NSC",
                   [(0, (500, 3)), (11, (9999, 3))])

    def test_becoming_at_times_becoming(self):
        self.steps("BECMG TL1230 CAVOK TEMPO TL1250 0500 BECMG FM1240 TL1300 OVC003",
                   [(0, (500, 20)), (11, (500, 999)), (20, (500, 3)), (31, (9999, 3))])

    def test_at_times_becoming_at_times(self):
        self.steps("TEMPO TL1230 OVC003 BECMG TL1240 CAVOK TEMPO TL1300 0500",
                   [(0, (500, 3)), (11, (500, 20)), (21, (500, 999)), (41, (9999, 999))])

    def test_three_becoming(self):
        self.steps("BECMG TL1230 9999 BECMG TL1240 NSC BECMG TL1250 0500 OVC003", [(0, (500, 3))])
        self.steps("BECMG TL1230 0500 OVC003 BECMG TL1240 3000 BECMG TL1250 BKN100",
                   [(0, (500, 3)), (21, (3000, 3)), (31, (3000, 100))])
        self.steps("BECMG TL1250 0500 OVC003 BECMG TL1240 3000 BECMG TL1230 BKN100",
                   [(0, (500, 3)), (11, (500, 100)), (21, (3000, 100))])

    def test_three_at_times(self):
        self.steps("TEMPO TL1230 0500 TEMPO TL1240 3000 TEMPO TL1250 OVC003",
                   [(0, (500, 3)), (11, (3000, 3)), (21, (8000, 3)), (31, (8000, 20))])

    def test_every_order_of_becoming_and_at_times(self):
        """Three changes, each worse than the one ahead of it: behind their end what was becoming is left."""
        told = ((3000, 10), (1000, 5), (400, 1))
        for manners in itertools.product(("BECMG", "TEMPO"), repeat=3):
            trend = " ".join(f"{manner} TL1330 {sight:04} OVC{ceiling:03}"
                             for manner, (sight, ceiling) in zip(manners, told))
            left = [view for manner, view in zip(manners, told) if manner == "BECMG"]
            self.steps(trend, [(0, (400, 1)), (71, min(left, default=(8000, 20)))])

    def test_every_order_where_the_last_becoming_is_best(self):
        told = ((400, 1), (1000, 5), (3000, 10))
        for manners in itertools.product(("BECMG", "TEMPO"), repeat=3):
            trend = " ".join(f"{manner} TL1330 {sight:04} OVC{ceiling:03}"
                             for manner, (sight, ceiling) in zip(manners, told))
            left = [view for manner, view in zip(manners, told) if manner == "BECMG"]
            self.steps(trend, [(0, (400, 1)), (71, max(left, default=(8000, 20)))])

    def test_over_midnight(self):
        self.steps("BECMG FM2350 TL0010 3000 TEMPO FM0000 TL0100 0500 VV002 BECMG FM0030 TL0200 CAVOK",
                   [(0, (8000, 20)), (10, (3000, 20)), (20, (500, 2)), (81, (3000, 20)), (141, (9999, 999))],
                   moment="162340Z")


class Refusals(unittest.TestCase):
    def answers(self, minutes, bytes_handed, answer):
        with self.subTest(minutes=minutes, n=len(bytes_handed)):
            self.assertEqual(least(minutes, bytes_handed), answer)

    def test_minutes(self):
        text = bytes_of(text_of())
        for minutes in (0, 1, 1439, 1440):
            self.answers(minutes, text, [0, 8000, 999])
        for minutes in (1441, 1442, 2880, 65536, 2147483648, 4294967295):
            self.answers(minutes, text, [-22])

    def test_400_bytes_and_401(self):
        for minutes in (0, 1440):
            for sign in (0, 32, 61, 65, 255):
                self.answers(minutes, [sign] * 400, [-71])
                for size in (401, 402, 500):
                    self.answers(minutes, [sign] * size, [-22])
            self.answers(minutes, bytes_of(text_of().rjust(400)), [-71])
            self.answers(minutes, bytes_of(text_of().rjust(401)), [-22])

    def test_no_report(self):
        texts = ("", "=", " ", text_of()[:-1], text_of() + " ", " " + text_of(), text_of() + "=", text_of().lower(),
                 text_of().replace(" ", "  ", 1), text_of(sky=""), text_of(weather="XX"), text_of(sight="8500"),
                 text_of(trend="TEMPO"), text_of(trend="TEMPO FM1300 TL1400"), text_of(trend="NOSIG TEMPO 0500"),
                 text_of(trend="TEMPO CAVOK NSC"), text_of(trend="TEMPO TL1400 FM1300 0500"),
                 text_of(trend="TEMPO FM2400 0500"), text_of(trend=" ".join(["TEMPO 0500"] * 4)))
        for text in texts:
            for minutes in (0, 60, 1440):
                self.answers(minutes, bytes_of(text), [-71])

    def test_refusal_that_is_told_first(self):
        for minutes in (1441, 4294967295):
            for bytes_handed in ([], [65] * 400, [65] * 401, bytes_of(text_of(sky="")), [0] * 500):
                self.answers(minutes, bytes_handed, [-22])

    def test_empty_list(self):
        self.answers(0, [], [-71])
        self.answers(1440, [], [-71])
        self.answers(1441, [], [-22])


if __name__ == "__main__":
    unittest.main()
