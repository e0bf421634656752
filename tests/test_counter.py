"""give, back, serve, days."""

import unittest

from tests.lines import BEGIN, BOOT, GUEST, HUGE, SHOP, SKI, ask, last

ONE = SHOP + [SKI, BOOT, GUEST]


def hire(day=0, days=1, g=0):
    return ("hire", g, day, days, 0)


def used_for(days, h=0):
    """Skis used for so many days from today 0 on, then back."""
    return [hire(0, days), ("give", h)] + [("days", 1)] * (days - 1) + [("back", h)]


class GiveTest(unittest.TestCase):
    def test_it_answers_the_setting(self):
        self.assertEqual(last(*ONE, hire(), ("give", 0)), 42)

    def test_none_such(self):
        self.assertEqual(ask(*ONE, ("give", 0), hire(), ("give", 1), ("give", HUGE))[5:], [-2, (0, 0, 0, 42), -2, -2])

    def test_only_what_is_booked(self):
        self.assertEqual(last(*ONE, hire(), ("give", 0), ("give", 0)), -16)
        self.assertEqual(last(*ONE, hire(), ("give", 0), ("back", 0), ("give", 0)), -16)
        self.assertEqual(last(*ONE, hire(), ("cancel", 0), ("give", 0)), -16)

    def test_not_booked_comes_ahead_of_the_day(self):
        self.assertEqual(last(*ONE, hire(5), ("cancel", 0), ("give", 0)), -16)

    def test_not_before_its_first_day(self):
        told = ask(*ONE, hire(2, 3), ("give", 0), ("days", 1), ("give", 0), ("days", 1), ("give", 0))
        self.assertEqual(told[6:], [-13, 1, -13, 2, 42])

    def test_later_than_its_first_or_last_day(self):
        self.assertEqual(ask(*ONE, hire(0, 3), ("days", 2), ("give", 0), ("back", 0))[-2:], [42, (70, 0)])
        self.assertEqual(ask(*ONE, hire(0, 3), ("days", 5), ("give", 0), ("back", 0))[-2:], [42, (70 + 3 * 7, 3)])

    def test_skis_that_come_back_late_while_the_next_one_waits(self):
        told = ask(*ONE, hire(0, 2), hire(2, 2), ("give", 0), ("days", 1), ("give", 1), ("days", 1), ("give", 1),
                   ("back", 0), ("give", 1), ("days", 1), ("back", 1))
        self.assertEqual(told[7:], [42, 1, -13, 2, -17, (57, 1), 42, 3, (50, 0)])

    def test_the_skis_alone_are_out_with_another(self):
        other = ("guest", 70, 175, 30, 1, 300)
        told = ask(*SHOP, SKI, BOOT, ("boot", 300, 300), GUEST, other, hire(0, 1), hire(1, 1, g=1), ("give", 0),
                   ("days", 1), ("give", 1), ("back", 0), ("give", 1))
        self.assertEqual(told[7:], [(0, 0, 0, 42), (1, 0, 1, 42), 42, 1, -17, (37, 1), 42])

    def test_the_boots_alone_are_out_with_another(self):
        other = ("guest", 70, 205, 30, 1, 270)
        told = ask(*SHOP, SKI, ("ski", 190, 0, 10, 100), BOOT, GUEST, other, hire(0, 1), hire(1, 1, g=1), ("give", 0),
                   ("days", 1), ("give", 1), ("back", 0), ("give", 1))
        self.assertEqual(told[7:], [(0, 0, 0, 42), (1, 1, 0, 42), 42, 1, -17, (37, 1), 42])

    def test_other_skis_and_boots_being_out_do_not_hinder(self):
        shop = SHOP + [SKI, SKI, SKI, BOOT, BOOT, BOOT, GUEST, hire(), hire(), hire()]
        for order in ((0, 1, 2), (2, 1, 0), (1, 2, 0)):
            told = ask(*shop, *[("give", h) for h in order])
            self.assertEqual(told[-6:], [(0, 0, 0, 42), (1, 1, 1, 42), (2, 2, 2, 42), 42, 42, 42], order)

    def test_the_first_day_comes_ahead_of_what_is_out(self):
        self.assertEqual(last(*ONE, hire(0, 1), hire(5, 1), ("give", 0), ("give", 1)), -13)

    def test_the_first_day_comes_ahead_of_the_service(self):
        self.assertEqual(last(*ONE, *used_for(5), hire(9), ("give", 1)), -13)

    def test_to_be_served_first_from_service_days_on(self):
        self.assertEqual(last(*ONE, *used_for(4), hire(4), ("days", 1), ("give", 1)), 42)
        self.assertEqual(last(*ONE, *used_for(5), hire(5), ("days", 1), ("give", 1)), -12)
        self.assertEqual(last(*ONE, *used_for(6), hire(6), ("days", 1), ("give", 1)), -12)

    def test_late_skis_are_to_be_served_once_they_are_back(self):
        told = ask(*ONE, *used_for(4), hire(3, 1), hire(4, 1), ("give", 1), ("days", 5), ("give", 2), ("back", 1),
                   ("give", 2), ("serve", 0), ("give", 2))
        self.assertEqual(told[-5:], [-17, (30 + 35, 5), -12, 10, 42])

    def test_what_is_out_comes_ahead_of_the_service(self):
        # The boots are out late with the tall guest's skis, while the others are to be served.
        tall = ("guest", 70, 205, 30, 1, 270)
        shop = SHOP + [SKI, ("ski", 190, 0, 10, 100), BOOT, GUEST, tall]
        told = ask(*shop, *used_for(5), hire(4, 1, g=1), hire(5, 1), ("give", 1), ("days", 1), ("give", 2), ("back", 1),
                   ("give", 2))
        self.assertEqual(told[-7:], [(1, 1, 0, 42), (2, 0, 0, 42), 42, 5, -17, (37, 1), -12])

    def test_what_is_out_comes_ahead_of_the_setting(self):
        told = ask(*ONE, GUEST, hire(0, 1), hire(1, 1, g=1), ("becomes", 1, 60, 175, 30, 1), ("give", 0), ("days", 1),
                   ("give", 1), ("back", 0), ("give", 1))
        self.assertEqual(told[-5:], [42, 1, -17, (37, 1), -33])

    def test_the_first_day_comes_ahead_of_the_setting(self):
        told = ask(*ONE, hire(1), ("becomes", 0, 60, 175, 30, 1), ("give", 0), ("days", 1), ("give", 0))
        self.assertEqual(told[-3:], [-13, 1, -33])

    def test_not_booked_comes_ahead_of_all_that_follows(self):
        told = ask(*ONE, hire(0), ("cancel", 0), hire(0), ("give", 1), ("give", 0), ("give", 1))
        self.assertEqual(told[-3:], [42, -16, -16])
        self.assertEqual(last(*ONE, *used_for(5), ("give", 0)), -16)
        self.assertEqual(last(*ONE, hire(), ("cancel", 0), ("becomes", 0, 60, 175, 30, 1), ("give", 0)), -16)

    def test_skis_served_in_the_midst(self):
        told = ask(*ONE, *used_for(3), ("serve", 0), hire(2, 4), ("give", 1), ("days", 3), ("back", 1), hire(6, 1),
                   ("days", 1), ("give", 2))
        self.assertEqual(told[10:], [3, (1, 0, 0, 42), 42, 5, (90, 0), (2, 0, 0, 42), 6, 42])

    def test_the_service_comes_ahead_of_the_setting(self):
        thin = ("becomes", 0, 15, 175, 5, 1)
        told = ask(*SHOP, ("ski", 160, 0, 42, 42), BOOT, GUEST, *used_for(5), hire(4), thin, ("give", 1), ("serve", 0),
                   ("give", 1))
        self.assertEqual(told[-3:], [-12, 5, -33])

    def test_a_guest_who_is_heavier_by_the_day_of_the_hire(self):
        light = ("guest", 40, 175, 30, 1, 270)
        told = ask(*SHOP, ("ski", 160, 0, 22, 42), BOOT, light, hire(3), ("becomes", 0, 75, 175, 30, 1), ("days", 3),
                   ("give", 0))
        self.assertEqual([told[5], told[-1]], [(0, 0, 0, 22), 42])

    def test_a_guest_who_is_too_heavy_or_too_light_by_then(self):
        shop = SHOP + [("ski", 160, 0, 22, 41), BOOT, ("guest", 40, 175, 30, 1, 270), hire()]
        told = ask(*shop, ("becomes", 0, 75, 175, 30, 1), ("give", 0), ("becomes", 0, 20, 175, 30, 1), ("give", 0),
                   ("back", 0), ("becomes", 0, 40, 175, 30, 1), ("give", 0))
        self.assertEqual(told[6:], [0, -33, 0, -33, -16, 0, 22])

    def test_there_is_no_setting_by_then(self):
        told = ask(*ONE, hire(), ("becomes", 0, 60, 175, 30, 1), ("setting", 0, 0), ("give", 0))
        self.assertEqual(told[-2:], [-33, -33])

    def test_only_the_setting_is_looked_at_again(self):
        self.assertEqual(last(*ONE, hire(), ("becomes", 0, 70, 190, 30, 3), ("give", 0)), 42)

    def test_a_refused_give_leaves_it_booked(self):
        told = ask(*ONE, hire(1), ("give", 0), ("back", 0), ("serve", 0), ("cancel", 0))
        self.assertEqual(told[6:], [-13, -16, 0, 0])


class BackTest(unittest.TestCase):
    def test_none_such(self):
        self.assertEqual(ask(*ONE, ("back", 0), hire(), ("give", 0), ("back", 1), ("back", HUGE))[5:],
                         [-2, (0, 0, 0, 42), 42, -2, -2])

    def test_only_what_is_out(self):
        self.assertEqual(last(*ONE, hire(), ("back", 0)), -16)
        self.assertEqual(last(*ONE, hire(), ("cancel", 0), ("back", 0)), -16)
        self.assertEqual(last(*ONE, hire(), ("give", 0), ("back", 0), ("back", 0)), -16)

    def test_the_price_of_the_first_day_and_of_each_day_more(self):
        for days, price in ((1, 30), (2, 50), (3, 70), (30, 610)):
            self.assertEqual(last(*ONE, hire(0, days), ("give", 0), ("back", 0)), (price, 0), days)

    def test_a_fine_for_each_day_late(self):
        for gone, answer in ((1, (70, 0)), (2, (70, 0)), (3, (77, 1)), (4, (84, 2)), (60, (70 + 58 * 7, 58))):
            self.assertEqual(last(*ONE, hire(0, 3), ("give", 0), ("days", gone), ("back", 0)), answer, gone)

    def test_the_greatest_prices_and_none(self):
        for begin, answer in ((("begin", 1000, 1000, 1000, 50), (61000, 31)), (("begin", 0, 0, 0, 1), (0, 31))):
            told = ask(begin, *ONE[1:], hire(0, 30), ("give", 0), ("days", 60), ("back", 0))
            self.assertEqual(told[-1], answer)

    def test_days_used_are_counted_from_the_first_day_to_today(self):
        for gone in (0, 1, 2, 7):
            passed = [("days", 1)] * gone
            told = ask(*ONE, hire(0, 3), ("give", 0), *passed, ("back", 0), ("serve", 0))
            self.assertEqual(told[-1], gone + 1, gone)

    def test_days_used_count_from_the_first_day_even_if_fetched_later(self):
        self.assertEqual(last(*ONE, hire(2, 5), ("days", 4), ("give", 0), ("days", 1), ("back", 0), ("serve", 0)), 4)

    def test_no_other_skis_are_used(self):
        shop = SHOP + [SKI, ("ski", 161, 0, 10, 100), BOOT, GUEST, hire(0, 3), ("give", 0), ("days", 2), ("back", 0)]
        self.assertEqual(ask(*shop, ("serve", 1), ("serve", 0))[-2:], [0, 3])

    def test_they_are_there_again(self):
        self.assertEqual(ask(*ONE, hire(0, 9), ("give", 0), ("back", 0), hire(0, 9), ("give", 1))[-2:],
                         [(1, 0, 0, 42), 42])

    def test_a_refused_back_uses_nothing(self):
        self.assertEqual(ask(*ONE, hire(), ("back", 0), ("serve", 0), ("give", 0))[-3:], [-16, 0, 42])


class ServeTest(unittest.TestCase):
    def test_it_answers_the_days_since_the_last_service(self):
        told = ask(*ONE, ("serve", 0), *used_for(3), ("serve", 0), ("serve", 0), hire(2), ("give", 1), ("back", 1),
                   ("serve", 0))
        self.assertEqual([told[5], told[11], told[12], told[-1]], [0, 3, 0, 1])

    def test_days_add_up_until_then(self):
        again = [hire(2, 2), ("give", 1), ("days", 1), ("back", 1)]
        self.assertEqual(last(*ONE, *used_for(3), *again, ("serve", 0)), 5)

    def test_none_such(self):
        self.assertEqual(ask(BEGIN, ("serve", 0), SKI, ("serve", 0), ("serve", 1), ("serve", HUGE)), [0, -2, 0, 0, -2, -2])

    def test_not_while_they_are_out(self):
        told = ask(*ONE, hire(), ("serve", 0), ("give", 0), ("serve", 0), ("days", 2), ("serve", 0), ("back", 0),
                   ("serve", 0))
        self.assertEqual(told[6:], [0, 42, -17, 2, -17, (44, 2), 3])

    def test_a_refused_service_serves_nothing(self):
        told = ask(*ONE, *used_for(4), hire(3, 1), ("give", 1), ("serve", 0), ("back", 1), hire(3, 1), ("give", 2),
                   ("serve", 0), ("give", 2))
        self.assertEqual(told[-6:], [-17, (30, 0), (2, 0, 0, 42), -12, 5, 42])

    def test_other_skis_being_out_does_not_hinder(self):
        shop = SHOP + [("ski", 161, 0, 10, 100), SKI, ("ski", 161, 0, 10, 100), BOOT, GUEST, hire(), ("give", 0)]
        self.assertEqual(ask(*shop, ("serve", 0), ("serve", 2), ("serve", 1))[-3:], [0, 0, -17])


class DaysTest(unittest.TestCase):
    def test_ranges(self):
        for n, answer in ((0, -22), (1, 1), (2, 2), (59, 59), (60, 60), (61, -22), (HUGE, -22)):
            self.assertEqual(last(BEGIN, ("days", n)), answer, n)

    def test_they_add_up(self):
        self.assertEqual(ask(BEGIN, ("days", 1), ("days", 60), ("days", 0), ("days", 61), ("days", 9)),
                         [0, 1, 61, -22, -22, 70])

    def test_they_go_on_beyond_400(self):
        self.assertEqual(ask(BEGIN, *[("days", 60)] * 255)[-1], 15300)

    def test_what_is_still_out_beyond_400_comes_back(self):
        told = ask(*ONE, hire(399 - 29, 30), *[("days", 60)] * 6, ("days", 40), ("give", 0), ("days", 60), ("back", 0))
        self.assertEqual(told[-4:], [400, 42, 460, (610 + 61 * 7, 61)])


if __name__ == "__main__":
    unittest.main()
