"""plan, due, busy, bill, price, worn, look, sums, state."""

import unittest

from skihire.shop import answers
from tests.lines import BEGIN, BOOT, CHART, GUEST, HUGE, SHOP, SKI, ask, flat, last

ONE = SHOP + [SKI, BOOT, GUEST]
TWO = SHOP + [SKI, SKI, BOOT, BOOT, GUEST]
THREE = SHOP + [SKI, SKI, SKI, BOOT, BOOT, BOOT, GUEST]


def hire(day=0, days=1, kind=0, g=0):
    return ("hire", g, day, days, kind)


class PlanTest(unittest.TestCase):
    def test_none_one_and_several(self):
        self.assertEqual(last(BEGIN, SKI, ("plan", 0)), 0)
        self.assertEqual(last(*ONE, hire(), ("plan", 0)), (1, 0))
        self.assertEqual(last(*ONE, hire(0), hire(1), hire(2), ("plan", 0)), (3, 0, 1, 2))

    def test_how_many_numbers_are_answered(self):
        self.assertEqual(answers(flat(ONE + [("plan", 0)]))[-2:], [1, 0])
        self.assertEqual(answers(flat(ONE + [hire(), hire(1), ("plan", 0)]))[-4:], [3, 2, 0, 1])

    def test_by_their_first_days(self):
        self.assertEqual(last(*ONE, hire(10, 2), hire(5, 5), hire(12), hire(0, 3), ("plan", 0)), (4, 3, 1, 0, 2))
        self.assertEqual(last(*ONE, hire(100), hire(99), hire(9), hire(10), ("plan", 0)), (4, 2, 3, 1, 0))

    def test_40_hires_of_the_same_skis(self):
        booked = [hire(39 - h) for h in range(40)]
        self.assertEqual(last(*ONE, *booked, ("plan", 0)), (40,) + tuple(reversed(range(40))))

    def test_of_the_same_first_day_by_their_numbers(self):
        # The same skis can have two hires of one first day only where one of them is back or called off.
        told = ask(*ONE, hire(3), ("cancel", 0), hire(3), hire(0), ("plan", 0))
        self.assertEqual(told[-1], (2, 2, 1))
        told = ask(*TWO, hire(3), hire(3), hire(3), ("plan", 0), ("plan", 1))
        self.assertEqual(told[-3:], [-33, (1, 0), (1, 1)])

    def test_those_that_are_out_stand_among_those_that_are_booked(self):
        calls = [hire(4), hire(0, 2), hire(2), ("give", 1)]
        self.assertEqual(last(*ONE, *calls, ("plan", 0)), (3, 1, 2, 0))
        self.assertEqual(last(*ONE, *calls, ("days", 9), ("plan", 0)), (3, 1, 2, 0))

    def test_what_is_back_or_called_off_is_not_there(self):
        calls = [hire(0), hire(1), hire(2), ("give", 0), ("back", 0), ("cancel", 2)]
        self.assertEqual(last(*ONE, *calls, ("plan", 0)), (1, 1))
        self.assertEqual(last(*ONE, *calls, ("cancel", 1), ("plan", 0)), 0)

    def test_what_was_not_fetched_is_still_booked(self):
        self.assertEqual(last(*ONE, hire(), ("days", 60), ("plan", 0)), (1, 0))

    def test_each_skis_have_their_own(self):
        told = ask(*TWO, hire(0, 5), hire(2), hire(6), ("plan", 0), ("plan", 1))
        self.assertEqual(told[-2:], [(2, 0, 2), (1, 1)])

    def test_none_such(self):
        self.assertEqual(ask(BEGIN, ("plan", 0), SKI, ("plan", 0), ("plan", 1), ("plan", HUGE)), [0, -2, 0, 0, -2, -2])


class DueTest(unittest.TestCase):
    def test_none_one_and_several(self):
        self.assertEqual(last(BEGIN, ("due",)), 0)
        self.assertEqual(last(*ONE, hire(), ("give", 0), ("due",)), (1, 0))
        told = ask(*THREE, hire(0, 3), hire(0, 1), hire(0, 2), ("give", 2), ("give", 1), ("give", 0), ("due",), ("days", 1),
                   ("due",), ("days", 1), ("due",))
        self.assertEqual(told[-5::2], [(1, 1), (2, 1, 2), (3, 0, 1, 2)])

    def test_how_many_numbers_are_answered(self):
        self.assertEqual(answers(flat(TWO + [hire(), hire(), ("give", 0), ("give", 1), ("due",)]))[-4:], [3, 2, 0, 1])
        self.assertEqual(answers(flat([BEGIN, ("due",)])), [1, 0, 1, 0])

    def test_on_its_last_day_the_day_before_and_the_day_after(self):
        told = ask(*ONE, hire(1, 3), ("days", 1), ("give", 0), ("due",), ("days", 1), ("due",), ("days", 1), ("due",),
                   ("days", 1), ("due",), ("days", 60), ("due",))
        self.assertEqual(told[8::2], [0, 0, (1, 0), (1, 0), (1, 0)])

    def test_only_what_is_out(self):
        self.assertEqual(last(*ONE, hire(), ("due",)), 0)
        self.assertEqual(last(*ONE, hire(), ("days", 5), ("due",)), 0)
        self.assertEqual(last(*ONE, hire(), ("give", 0), ("back", 0), ("due",)), 0)
        self.assertEqual(last(*ONE, hire(), ("cancel", 0), ("days", 5), ("due",)), 0)

    def test_by_their_numbers_not_by_their_days(self):
        told = ask(*TWO, hire(0, 5), hire(0, 1), ("give", 1), ("give", 0), ("days", 9), ("due",))
        self.assertEqual(told[-1], (2, 0, 1))


class BusyTest(unittest.TestCase):
    def busy(self, calls, *asked):
        return ask(*calls, *[("busy", d) for d in asked])[-len(asked):]

    def test_nothing_is_taken(self):
        self.assertEqual(self.busy([BEGIN], 0, 1, 399, 400, HUGE), [(0, 0)] * 5)
        self.assertEqual(self.busy(ONE, 0, 1, HUGE), [(0, 0)] * 3)

    def test_how_many_numbers_are_answered(self):
        self.assertEqual(answers(flat(ONE + [("busy", HUGE)]))[-3:], [2, 0, 0])

    def test_before_within_and_after_a_hire(self):
        self.assertEqual(self.busy(ONE + [hire(3, 3)], 0, 2, 3, 4, 5, 6, HUGE),
                         [(0, 0), (0, 0), (1, 1), (1, 1), (1, 1), (0, 0), (0, 0)])

    def test_several_hires(self):
        calls = THREE + [hire(0, 4), hire(2, 4), hire(3, 1)]
        self.assertEqual(self.busy(calls, 0, 1, 2, 3, 4, 5, 6),
                         [(1, 1), (1, 1), (2, 2), (3, 3), (1, 1), (1, 1), (0, 0)])

    def test_all_16_skis_and_boots(self):
        calls = SHOP + [SKI] * 16 + [BOOT] * 16 + [GUEST] + [hire(5)] * 16
        self.assertEqual(self.busy(calls, 4, 5, 6), [(0, 0), (16, 16), (0, 0)])

    def test_on_today_while_a_hire_is_late(self):
        calls = ONE + [hire(0, 2), ("give", 0), ("days", 5)]
        self.assertEqual(self.busy(calls, 0, 1, 2, 4, 5, 6, HUGE), [(1, 1)] * 5 + [(0, 0)] * 2)
        self.assertEqual(self.busy(calls + [("days", 1)], 5, 6, 7), [(1, 1), (1, 1), (0, 0)])
        self.assertEqual(self.busy(calls + [("back", 0)], 0, 1, 5), [(0, 0)] * 3)

    def test_what_is_out_has_its_days_to_come_too(self):
        calls = ONE + [hire(1, 4), ("days", 2), ("give", 0)]
        self.assertEqual(self.busy(calls, 0, 1, 2, 4, 5), [(0, 0), (1, 1), (1, 1), (1, 1), (0, 0)])

    def test_what_is_late_and_waited_for_is_taken_once(self):
        calls = ONE + [hire(0, 1), hire(1, 2), ("give", 0), ("days", 1)]
        self.assertEqual(self.busy(calls, 0, 1, 2, 3), [(1, 1), (1, 1), (1, 1), (0, 0)])

    def test_skis_and_boots_are_counted_apart(self):
        other = ("guest", 70, 175, 30, 1, 300)
        two_boots = SHOP + [SKI, BOOT, ("boot", 300, 300), GUEST, other, hire(0), hire(1, g=1), ("give", 0), ("days", 1)]
        self.assertEqual(self.busy(two_boots, 0, 1, 2), [(1, 1), (1, 2), (0, 0)])
        tall = ("guest", 70, 205, 30, 1, 270)
        two_skis = SHOP + [SKI, ("ski", 190, 0, 10, 100), BOOT, GUEST, tall, hire(0), hire(1, g=1), ("give", 0), ("days", 1)]
        self.assertEqual(self.busy(two_skis, 0, 1, 2), [(1, 1), (2, 1), (0, 0)])

    def test_what_was_never_fetched_is_not_late(self):
        self.assertEqual(self.busy(ONE + [hire(0, 2), ("days", 5)], 0, 1, 2, 5), [(1, 1), (1, 1), (0, 0), (0, 0)])

    def test_what_is_back_or_called_off_takes_nothing(self):
        self.assertEqual(self.busy(ONE + [hire(0, 5), ("cancel", 0)], 0, 4), [(0, 0)] * 2)
        self.assertEqual(self.busy(ONE + [hire(0, 5), ("give", 0), ("back", 0)], 0, 4), [(0, 0)] * 2)

    def test_the_last_day_of_all_and_beyond(self):
        self.assertEqual(self.busy(ONE + [hire(399)], 398, 399, 400), [(0, 0), (1, 1), (0, 0)])
        late = ONE + [hire(399)] + [("days", 60)] * 7 + [("give", 0)]
        self.assertEqual(self.busy(late, 398, 399, 400, 420, 421), [(0, 0), (1, 1), (1, 1), (1, 1), (0, 0)])


class BillTest(unittest.TestCase):
    def test_of_what_is_booked(self):
        self.assertEqual(last(*ONE, hire(5, 3), ("bill", 0)), (70, 0))

    def test_of_what_was_not_fetched_in_its_days(self):
        told = ask(*ONE, hire(0, 3), ("days", 2), ("bill", 0), ("days", 1), ("bill", 0), ("days", 1), ("bill", 0))
        self.assertEqual(told[-5::2], [(70, 0), (77, 1), (84, 2)])

    def test_of_what_is_out_on_its_first_and_last_day_and_late(self):
        told = ask(*ONE, hire(0, 3), ("give", 0), ("bill", 0), ("days", 2), ("bill", 0), ("days", 1), ("bill", 0),
                   ("days", 60), ("bill", 0))
        self.assertEqual(told[7::2], [(70, 0), (70, 0), (77, 1), (70 + 61 * 7, 61)])

    def test_back_right_after_it_answers_the_same(self):
        for days in (1, 2, 30):
            for gone in (1, 2, 29, 30, 31, 60):
                told = ask(*ONE, hire(0, days), ("give", 0), ("days", gone), ("bill", 0), ("back", 0))
                self.assertEqual(told[-2], told[-1], (days, gone))
        self.assertEqual(ask(*ONE, hire(), ("give", 0), ("bill", 0), ("back", 0))[-2:], [(30, 0), (30, 0)])

    def test_it_pays_nothing(self):
        self.assertEqual(ask(*ONE, hire(), ("give", 0), ("bill", 0), ("sums",))[-1], (0, 0, 0, 0, 0))

    def test_each_hire_has_its_own(self):
        told = ask(*TWO, hire(0, 2), hire(0, 4), ("days", 2), ("bill", 0), ("bill", 1))
        self.assertEqual(told[-2:], [(57, 1), (90, 0)])

    def test_of_what_is_back_or_called_off(self):
        self.assertEqual(last(*ONE, hire(), ("cancel", 0), ("bill", 0)), -16)
        self.assertEqual(last(*ONE, hire(), ("give", 0), ("back", 0), ("bill", 0)), -16)

    def test_none_such(self):
        self.assertEqual(ask(*ONE, ("bill", 0), hire(), ("bill", 1), ("bill", HUGE), ("bill", 0))[5:],
                         [-2, (0, 0, 0, 42), -2, -2, (30, 0)])


class PriceTest(unittest.TestCase):
    def test_ranges(self):
        for n, answer in ((0, -22), (1, 30), (2, 50), (3, 70), (29, 590), (30, 610), (31, -22), (HUGE, -22)):
            self.assertEqual(last(BEGIN, ("price", n)), answer, n)

    def test_the_greatest_prices_and_none(self):
        self.assertEqual(ask(("begin", 1000, 1000, 1000, 50), ("price", 1), ("price", 30)), [0, 1000, 30000])
        self.assertEqual(ask(("begin", 0, 0, 1000, 50), ("price", 1), ("price", 30)), [0, 0, 0])
        self.assertEqual(ask(("begin", 1000, 0, 0, 50), ("price", 1), ("price", 30)), [0, 1000, 1000])
        self.assertEqual(ask(("begin", 0, 1000, 0, 50), ("price", 1), ("price", 30)), [0, 0, 29000])

    def test_it_is_what_a_hire_of_so_many_days_pays(self):
        for n in (1, 2, 17, 30):
            told = ask(*ONE, ("price", n), hire(0, n), ("bill", 0), ("give", 0), ("back", 0))
            self.assertEqual([(told[5], 0)] * 2, [told[7], told[9]], n)


class WornTest(unittest.TestCase):
    def used(self, days, h=0):
        return [hire(0, days), ("give", h)] + [("days", 1)] * (days - 1) + [("back", h)]

    def test_none_one_and_several(self):
        self.assertEqual(last(BEGIN, ("worn",)), 0)
        self.assertEqual(last(BEGIN, SKI, SKI, ("worn",)), 0)
        booked = [hire(0, 6), hire(0, 5), hire(0, 4), ("give", 0), ("give", 1), ("give", 2)]
        told = ask(*THREE, *booked, ("days", 3), ("back", 2), ("days", 1), ("back", 1), ("worn",), ("days", 1), ("back", 0),
                   ("worn",))
        self.assertEqual((told[-4], told[-1]), ((1, 1), (2, 0, 1)))

    def test_more_skis_than_boots_and_more_boots_than_skis(self):
        off = ("ski", 100, 0, 5, 240)
        self.assertEqual(last(*SHOP, off, off, SKI, BOOT, GUEST, *self.used(5), ("worn",)), (1, 2))
        self.assertEqual(last(*SHOP, SKI, BOOT, BOOT, BOOT, GUEST, *self.used(5), ("worn",)), (1, 0))

    def test_how_many_numbers_are_answered(self):
        self.assertEqual(answers(flat([BEGIN, ("worn",)])), [1, 0, 1, 0])
        self.assertEqual(answers(flat(ONE + self.used(5) + [("worn",)]))[-3:], [2, 1, 0])

    def test_just_at_service_days(self):
        for days, answer in ((4, 0), (5, (1, 0)), (6, (1, 0))):
            self.assertEqual(last(*ONE, *self.used(days), ("worn",)), answer, days)

    def test_the_least_and_the_greatest_service(self):
        self.assertEqual(last(("begin", 1, 1, 1, 1), *ONE[1:], *self.used(1), ("worn",)), (1, 0))
        for days, answer in ((49, 0), (50, (1, 0))):
            late = [hire(0, 1), ("give", 0), ("days", days - 1), ("back", 0)]
            self.assertEqual(last(("begin", 1, 1, 1, 50), *ONE[1:], *late, ("worn",)), answer, days)

    def test_only_once_they_are_back(self):
        told = ask(*ONE, hire(0, 9), ("give", 0), ("days", 8), ("worn",), ("back", 0), ("worn",))
        self.assertEqual(told[-3:], [0, (190, 0), (1, 0)])

    def test_served_skis_are_not_worn(self):
        self.assertEqual(ask(*ONE, *self.used(5), ("worn",), ("serve", 0), ("worn",))[-3:], [(1, 0), 5, 0])

    def test_it_is_the_days_since_the_service_that_count(self):
        again = [hire(4, 1), ("give", 1), ("back", 1)]
        self.assertEqual(last(*ONE, *self.used(5), ("serve", 0), *again, ("worn",)), 0)

    def test_those_that_are_worn_are_those_that_are_not_given(self):
        told = ask(*ONE, *self.used(5), hire(4, 1), ("give", 1), ("worn",), ("serve", 0), ("worn",), ("give", 1))
        self.assertEqual(told[-5:], [-12, (1, 0), 5, 0, 42])


class LookTest(unittest.TestCase):
    SHOP = SHOP + [("ski", 100, 0, 5, 240), SKI, ("boot", 200, 300), ("boot", 200, 300), BOOT, GUEST, GUEST,
                   ("hire", 1, 4, 6, 0)]

    def test_how_it_is_guest_first_day_days_skis_boots(self):
        self.assertEqual(last(*self.SHOP, ("look", 0)), (0, 1, 4, 6, 1, 2))
        self.assertEqual(answers(flat(self.SHOP + [("look", 0)]))[-7:], [6, 0, 1, 4, 6, 1, 2])

    def test_how_it_is(self):
        out = [("days", 5), ("give", 0)]
        self.assertEqual(last(*self.SHOP, *out, ("look", 0)), (1, 1, 4, 6, 1, 2))
        self.assertEqual(last(*self.SHOP, *out, ("days", 60), ("look", 0)), (1, 1, 4, 6, 1, 2))
        self.assertEqual(last(*self.SHOP, *out, ("days", 2), ("back", 0), ("look", 0)), (2, 1, 4, 6, 1, 2))
        self.assertEqual(last(*self.SHOP, ("cancel", 0), ("look", 0)), (3, 1, 4, 6, 1, 2))

    def test_several(self):
        told = ask(*TWO, hire(0, 2), hire(1, 3), ("cancel", 0), hire(5, 1), ("look", 0), ("look", 1), ("look", 2))
        self.assertEqual(told[-3:], [(3, 0, 0, 2, 0, 0), (0, 0, 1, 3, 1, 1), (0, 0, 5, 1, 0, 0)])

    def test_none_such(self):
        self.assertEqual(ask(*self.SHOP, ("look", 1), ("look", HUGE))[-2:], [-2, -2])
        self.assertEqual(ask(BEGIN, ("look", 0)), [0, -2])

    def test_a_refused_hire_is_not_there(self):
        self.assertEqual(ask(*ONE, hire(kind=1), ("look", 0))[-2:], [-33, -2])


class SumsTest(unittest.TestCase):
    def test_at_first(self):
        self.assertEqual(answers(flat([BEGIN, ("sums",)])), [1, 0, 5, 0, 0, 0, 0, 0])

    def test_what_is_booked_or_out_is_not_counted(self):
        told = ask(*ONE, hire(0, 2), ("sums",), ("give", 0), ("days", 5), ("sums",))
        self.assertEqual((told[6], told[9]), ((0, 0, 0, 0, 0), (0, 0, 0, 0, 0)))

    def test_after_several_hires(self):
        calls = [
            hire(0, 2), hire(0, 3), hire(0, 1), hire(9, 1), hire(9, 2), ("give", 0), ("give", 1), ("cancel", 2), ("sums",),
            ("days", 1), ("back", 0), ("sums",), ("days", 3), ("back", 1), ("sums",), ("cancel", 4), ("sums",),
        ]
        told = ask(*THREE, *calls)
        self.assertEqual([answer for call, answer in zip(THREE + calls, told) if call == ("sums",)], [
            (0, 0, 0, 0, 1), (0, 50, 2, 1, 1), (0, 50 + 70 + 14, 2 + 5, 2, 1), (0, 134, 7, 2, 2),
        ])

    def test_what_was_paid_is_what_back_told(self):
        told = ask(*TWO, hire(0, 2), hire(0, 1), ("give", 0), ("give", 1), ("days", 3), ("back", 1), ("back", 0), ("sums",))
        self.assertEqual(told[-3:], [(51, 3), (64, 2), (0, 115, 8, 2, 0)])

    def test_served_skis_are_used_as_much_in_all(self):
        calls = [hire(0, 3), ("give", 0), ("days", 2), ("back", 0), ("sums",), ("serve", 0), ("sums",), hire(2), ("give", 1),
                 ("back", 1), ("sums",), ("serve", 0), ("serve", 0), ("sums",)]
        told = ask(*ONE, *calls)
        self.assertEqual(told[-10:], [(0, 70, 3, 1, 0), 3, (0, 70, 3, 1, 0), (1, 0, 0, 42), 42, (30, 0), (0, 100, 4, 2, 0),
                                      1, 0, (0, 100, 4, 2, 0)])

    def test_refused_ones_are_not_counted(self):
        told = ask(*ONE, hire(), ("back", 0), ("cancel", 0), ("cancel", 0), ("back", 0), ("give", 0), ("sums",))
        self.assertEqual(told[-1], (0, 0, 0, 0, 1))

    def test_the_greatest_sum(self):
        late = [hire(0, 1), ("give", 0)] + [("days", 60)] * 240 + [("back", 0), ("sums",)]
        told = ask(("begin", 1000, 1000, 1000, 50), *ONE[1:], *late)
        self.assertEqual(told[-1], (0, 1000 + 14400 * 1000, 14401, 1, 0))


class StateTest(unittest.TestCase):
    def test_at_first(self):
        self.assertEqual(answers(flat([BEGIN, ("state",)])), [1, 0, 7, 0, 0, 0, 0, 0, 0, 0])

    def test_without_a_chart_and_with_one(self):
        things = [SKI, SKI, BOOT, BOOT, BOOT, GUEST, ("days", 7)]
        self.assertEqual(last(BEGIN, *things, ("state",)), (0, 7, 2, 3, 1, 0, 0))
        self.assertEqual(last(BEGIN, *things, CHART, ("state",)), (0, 7, 2, 3, 1, 0, 4))
        self.assertEqual(last(BEGIN, ("chart", [], [], [], []), ("state",)), (0, 0, 0, 0, 0, 0, 0))

    def test_a_later_chart(self):
        self.assertEqual(last(*SHOP, ("chart", [1], [1], [1], [0]), ("state",)), (0, 0, 0, 0, 0, 0, 1))
        self.assertEqual(last(*SHOP, ("chart", [1], [1], [1], [241]), ("state",)), (0, 0, 0, 0, 0, 0, 4))

    def test_hires_however_they_are(self):
        calls = [hire(0), hire(1), hire(2), hire(3), ("give", 0), ("back", 0), ("days", 1), ("give", 1), ("cancel", 2)]
        self.assertEqual(last(*ONE, *calls, ("state",)), (0, 1, 1, 1, 1, 4, 4))

    def test_as_much_as_there_can_be(self):
        rows = list(range(16))
        wide = ("chart", rows, rows, [400], [42] * 16)
        booked = [call for h in range(40) for call in (hire(), ("cancel", h))]
        told = last(BEGIN, wide, *[SKI] * 17, *[BOOT] * 17, *[GUEST] * 21, *booked, hire(), ("days", 60), ("state",))
        self.assertEqual(told, (0, 60, 16, 16, 20, 40, 16))


class AfterASecondBeginTest(unittest.TestCase):
    ASKED = [("sums",), ("state",), ("due",), ("worn",), ("busy", 0), ("busy", 9), ("plan", 0), ("look", 0), ("bill", 0),
             ("boots", 0), ("price", 2)]
    FILLED = TWO + [hire(0, 5), hire(0, 1), ("cancel", 1), hire(0, 3), ("give", 0), ("give", 2), ("days", 9), ("back", 0)]

    def test_before_it(self):
        self.assertEqual(ask(*self.FILLED, *self.ASKED)[-11:], [
            (0, 110 + 35, 10, 1, 1), (0, 9, 2, 2, 1, 3, 4), (1, 2), (1, 0), (1, 1), (1, 1), 0, (2, 0, 0, 5, 0, 0), -16,
            (2, 0, 1), 50,
        ])

    def test_after_one_that_answers_0(self):
        told = ask(*self.FILLED, ("begin", 5, 6, 7, 8), *self.ASKED)
        self.assertEqual(told[-12:], [
            0, (0, 0, 0, 0, 0), (0, 0, 0, 0, 0, 0, 0), 0, 0, (0, 0), (0, 0), -2, -2, -2, -2, 11,
        ])
        asked = [("skis", 0, 0), ("could", 0, 0, 1, 0), ("choices", 0, 0, 1, 0), ("longest", 0, 0, 0), ("swap", 0, 0)]
        self.assertEqual(ask(*self.FILLED, BEGIN, *asked)[-5:], [-6] * 5)
        self.assertEqual(ask(*self.FILLED, BEGIN, CHART, *asked)[-5:], [-2] * 5)

    def test_it_is_as_if_there_had_been_nothing(self):
        anew = self.FILLED + self.ASKED
        self.assertEqual(ask(*self.FILLED, *anew)[len(self.FILLED):], ask(*anew))

    def test_after_a_refused_one(self):
        told = ask(*self.FILLED, ("begin", 5, 6, 7, 0), *self.ASKED)
        self.assertEqual(told[-12:], [-22] + ask(*self.FILLED, *self.ASKED)[-11:])


if __name__ == "__main__":
    unittest.main()
