"""Each of the four calls: what is handed in stays as it is, nothing is kept, and nothing but the answer is told."""

import contextlib
import io
import itertools
import random
import unittest

from tests.samples import bytes_of, numbers_of, text_of
from tests.views_oracle import draw_near_report
from weathercode.reports import first, least, read, write

TEXTS = (text_of(), text_of(weather="-RA", sky="FEW010"), text_of(trend="BECMG CAVOK"), text_of(trend="NOSIG"),
         text_of(trend="TEMPO 0500 FG VV001"),
         text_of(trend="BECMG TL1230 0500 TEMPO FM1240 TL1250 OVC003 BECMG CAVOK"),
         text_of(sight="CAVOK", sky=""), text_of(sky=""), text_of(trend="TEMPO"), "", "X" * 400, "X" * 401)
LISTS = (numbers_of(), numbers_of(weather=(1, 0, 0, 1, 2), sky=(2, 1, 1, 10, 0)),
         numbers_of(trend=(2, 1, 1, -1, -1, 0, 10000, -1, -1)),
         numbers_of(trend=(2, 1, 2, -1, -1, 0, 500, 1, 1, 0, 1, 9, 1, 1)),
         numbers_of()[:-1], numbers_of(sky=()), numbers_of(trend=(0, 0, 0)), [], [65] * 257)


class Watched(list):
    """A list that may not be changed, not for a while either."""

    def refuse(self, *handed, **named):
        raise AssertionError("what is handed in is changed")

    append = clear = extend = insert = pop = remove = reverse = sort = refuse
    __setitem__ = __delitem__ = __iadd__ = __imul__ = refuse


def asked(texts):
    """Of each text and each list of numbers the calls that take it, with what is handed in beside it."""
    calls = [(write, (), numbers) for numbers in LISTS]
    for text in texts:
        handed = bytes_of(text)
        calls.append((read, (), handed))
        calls += [(least, (minutes,), handed) for minutes in (0, 60, 121, 1440, 1441)]
        calls += [(first, bounds, handed) for bounds in ((0, 0), (8000, 0), (8001, 0), (800, 10), (0, 1000))]
    return calls


class NothingKept(unittest.TestCase):
    def test_what_is_handed_in_is_not_changed(self):
        for call, ahead, handed in asked(TEXTS):
            with self.subTest(call=call.__name__, ahead=ahead, handed=handed):
                own = list(handed)
                self.assertEqual(call(*ahead, own), call(*ahead, Watched(handed)))
                self.assertEqual(own, handed)

    def test_answers_are_lists_of_whole_numbers(self):
        for call, ahead, handed in asked(TEXTS):
            with self.subTest(call=call.__name__, ahead=ahead, handed=handed):
                answer = call(*ahead, handed)
                self.assertIs(type(answer), list)
                self.assertEqual({type(number) for number in answer}, {int})

    def test_a_changed_answer_changes_no_later_one(self):
        for call, ahead, handed in asked(TEXTS):
            with self.subTest(call=call.__name__, ahead=ahead, handed=handed):
                answer = call(*ahead, handed)
                expected = list(answer)
                answer[0] = 7
                answer.append(7)
                self.assertEqual(call(*ahead, handed), expected)

    def test_a_second_call_answers_as_the_first_whatever_comes_between(self):
        calls = asked(TEXTS)
        answers = [call(*ahead, list(handed)) for call, ahead, handed in calls]
        self.assertEqual([call(*ahead, list(handed)) for call, ahead, handed in reversed(calls)], answers[::-1])
        places = list(range(len(calls)))
        random.Random(31).shuffle(places)
        for place in places:
            call, ahead, handed = calls[place]
            self.assertEqual(call(*ahead, handed), answers[place])

    def test_each_call_between_two_of_each_other(self):
        calls = asked([text_of(trend="BECMG TL1230 0500 TEMPO OVC003")])
        others = asked([text_of(sight="0000", sky="VV000", trend="TEMPO 0050")])
        for (call, ahead, handed), (other, other_ahead, other_handed) in itertools.product(calls, others):
            expected = call(*ahead, handed)
            other(*other_ahead, other_handed)
            self.assertEqual(call(*ahead, handed), expected)

    def test_drawn_reports_asked_twice(self):
        source = random.Random(32)
        texts = [draw_near_report(source) for turn in range(60)]
        answers = [call(*ahead, handed) for call, ahead, handed in asked(texts)]
        self.assertEqual([call(*ahead, handed) for call, ahead, handed in asked(texts)], answers)

    def test_nothing_is_printed(self):
        printed = io.StringIO()
        with contextlib.redirect_stdout(printed), contextlib.redirect_stderr(printed):
            for call, ahead, handed in asked(TEXTS):
                call(*ahead, handed)
        self.assertEqual(printed.getvalue(), "")


if __name__ == "__main__":
    unittest.main()
