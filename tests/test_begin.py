"""begin, and what is answered before it."""

import unittest

from skihire.shop import answers
from tests.lines import BEGIN, BOOT, CHART, GIVEN, GUEST, HUGE, SHOP, SKI, ask, flat, last

EVERY_OTHER = [
    CHART, SKI, BOOT, GUEST, ("becomes", 0, 70, 175, 30, 1), ("hire", 0, 0, 1, 0), ("cancel", 0),
    ("give", 0), ("back", 0), ("serve", 0), ("days", 1), ("code", 0), ("setting", 0, 0), ("ideal", 0), ("boots", 0),
    ("skis", 0, 0), ("could", 0, 0, 1, 0), ("choices", 0, 0, 1, 0), ("longest", 0, 0, 0), ("swap", 0, 0), ("plan", 0),
    ("due",), ("busy", 0), ("bill", 0), ("price", 1), ("worn",), ("look", 0), ("sums",), ("state",),
]


class BeginTest(unittest.TestCase):
    def test_it_answers_0(self):
        self.assertEqual(answers([0, 30, 20, 7, 10]), [1, 0])

    def test_ranges_just_inside(self):
        for call in [
            ("begin", 0, 0, 0, 1), ("begin", 1000, 0, 0, 50), ("begin", 0, 1000, 0, 50),
            ("begin", 0, 0, 1000, 1), ("begin", 1000, 1000, 1000, 50),
        ]:
            self.assertEqual(ask(call, ("days", 1)), [0, 1], call)

    def test_ranges_just_outside(self):
        for call in [
            ("begin", 1001, 0, 0, 1), ("begin", 0, 1001, 0, 1), ("begin", 0, 0, 1001, 1),
            ("begin", 0, 0, 0, 0), ("begin", 0, 0, 0, 51), ("begin", HUGE, 0, 0, 1),
            ("begin", 0, HUGE, 0, 1), ("begin", 0, 0, HUGE, 1), ("begin", 0, 0, 0, HUGE),
        ]:
            self.assertEqual(ask(call, ("days", 1)), [-22, -11], call)

    def test_the_four_numbers_are_kept_apart(self):
        shop = [("begin", 100, 10, 1, 2), CHART, SKI, BOOT, GUEST, ("hire", 0, 0, 3, 0), ("give", 0)]
        self.assertEqual(last(*shop, ("days", 4), ("back", 0)), (122, 2))
        self.assertEqual(ask(*shop, ("days", 1), ("back", 0), ("hire", 0, 1, 1, 0), ("give", 1))[-1], -12)


class NotBegunTest(unittest.TestCase):
    def test_every_other_call_before_a_begin(self):
        self.assertEqual(ask(*EVERY_OTHER), [-11] * len(EVERY_OTHER))

    def test_every_other_call_after_a_refused_begin(self):
        told = ask(("begin", 0, 0, 0, 0), *EVERY_OTHER)
        self.assertEqual(told, [-22] + [-11] * len(EVERY_OTHER))

    def test_not_begun_comes_ahead_of_every_other_refusal(self):
        self.assertEqual(ask(("chart", [], [], [], []), ("ski", 0, HUGE, HUGE, 0), ("days", 0)), [-11] * 3)

    def test_each_number_of_a_call_with_all_it_is_given(self):
        for number in range(2, 30):
            for value in (0, HUGE):
                line = [number] + [value] * GIVEN[number] + flat([BEGIN])
                self.assertEqual(answers(line), [1, -11, 1, 0], number)

    def test_nothing_of_what_was_not_begun_is_there(self):
        told = ask(CHART, SKI, BOOT, GUEST, BEGIN, ("ideal", 0), ("serve", 0), ("code", 0), SKI, BOOT, GUEST)
        self.assertEqual(told, [-11, -11, -11, -11, 0, -2, -2, -6, 0, 0, 0])


class BeginAgainTest(unittest.TestCase):
    def filled(self):
        return SHOP + [SKI, BOOT, GUEST, ("days", 3), ("hire", 0, 3, 1, 0), ("give", 0)]

    def test_there_is_nothing_and_today_is_0(self):
        told = ask(*self.filled(), ("begin", 1, 2, 3, 4), ("ideal", 0), ("serve", 0), ("cancel", 0), ("back", 0),
                   ("code", 0), ("hire", 0, 0, 1, 0), ("becomes", 0, 70, 175, 30, 1), ("days", 1))
        self.assertEqual(told[8:], [0, -2, -2, -2, -2, -6, -6, -2, 1])

    def test_numbers_begin_at_0_and_a_chart_may_be_put_again(self):
        told = ask(*self.filled(), BEGIN, CHART, SKI, BOOT, ("setting", 0, 0), GUEST, ("hire", 0, 0, 1, 0))
        self.assertEqual(told[8:], [0, 4, 0, 0, -2, 0, (0, 0, 0, 42)])

    def test_prices_are_the_new_ones(self):
        told = ask(*self.filled(), ("begin", 1, 2, 3, 4), CHART, SKI, BOOT, GUEST, ("hire", 0, 0, 2, 0), ("give", 0),
                   ("days", 2), ("back", 0))
        self.assertEqual(told[-1], (6, 1))

    def test_a_refused_begin_starts_nothing_anew(self):
        told = ask(*self.filled(), ("begin", 1001, 0, 0, 1), ("ideal", 0), ("code", 0), ("serve", 0), ("days", 1),
                   ("back", 0))
        self.assertEqual(told[8:], [-22, 160, 3, -17, 4, (30 + 7, 1)])


class NoChartTest(unittest.TestCase):
    NEED_ONE = (6, 8, 12, 13, 16, 17, 18, 19, 20)

    def test_no_chart_comes_ahead_of_all_else_that_is_due(self):
        for number in self.NEED_ONE:
            for value in (0, 9, HUGE):
                line = flat([BEGIN]) + [number] + [value] * GIVEN[number]
                self.assertEqual(answers(line), [1, 0, 1, -6], number)

    def test_no_other_call_needs_one(self):
        for number in GIVEN:
            if number not in self.NEED_ONE:
                self.assertNotIn(-6, answers(flat([BEGIN]) + [number] + [0] * GIVEN[number])[3:], number)

    def test_the_others_do_without_one(self):
        told = ask(BEGIN, SKI, BOOT, GUEST, ("becomes", 0, 70, 180, 30, 1), ("ideal", 0), ("serve", 0), ("days", 1),
                   ("cancel", 0), ("back", 0), ("ideal", 1), ("serve", 1), ("becomes", 1, 70, 180, 30, 1))
        self.assertEqual(told, [0, 0, 0, 0, 0, 165, 0, 1, -2, -2, -2, -2, -2])
        told = ask(BEGIN, SKI, BOOT, GUEST, ("boots", 0), ("plan", 0), ("due",), ("busy", 0), ("bill", 0), ("price", 1),
                   ("worn",), ("look", 0), ("sums",), ("state",), ("boots", 1), ("plan", 1))
        self.assertEqual(told[4:], [(1, 0), 0, 0, (0, 0), -2, 30, 0, -2, (0, 0, 0, 0, 0), (0, 0, 1, 1, 1, 0, 0), -2, -2])

    def test_a_refused_chart_is_none(self):
        self.assertEqual(ask(BEGIN, GUEST, ("chart", [], [], [], []), ("code", 0)), [0, 0, -22, -6])


if __name__ == "__main__":
    unittest.main()
