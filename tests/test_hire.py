"""hire, cancel."""

import unittest

from skihire.shop import answers
from tests.lines import BOOT, GUEST, HUGE, SHOP, SKI, ask, flat, last

ONE = SHOP + [SKI, BOOT, GUEST]
TWO = SHOP + [SKI, SKI, BOOT, BOOT, GUEST]


def hire(day=0, days=1, kind=0, g=0):
    return ("hire", g, day, days, kind)


class HireTest(unittest.TestCase):
    def test_it_answers_its_number_skis_boots_and_setting(self):
        told = ask(*SHOP, ("ski", 100, 0, 5, 240), SKI, ("boot", 200, 300), ("boot", 200, 300), BOOT, GUEST, hire(),
                   hire(day=1))
        self.assertEqual(told[-2:], [(0, 1, 2, 42), (1, 1, 2, 42)])
        self.assertEqual(answers(flat(ONE + [hire()]))[-5:], [4, 0, 0, 0, 42])

    def test_it_is_the_guests_own_measures_that_count(self):
        small = ("guest", 30, 140, 30, 1, 220)
        told = ask(*SHOP, SKI, ("ski", 125, 0, 5, 240), BOOT, ("boot", 220, 250), GUEST, small, hire(g=1), hire(g=0))
        self.assertEqual(told[-2:], [(0, 1, 1, 20), (1, 0, 0, 42)])

    def test_none_such_comes_first_of_what_is_due(self):
        self.assertEqual(last(*SHOP, hire(day=HUGE)), -2)
        self.assertEqual(last(*ONE, hire(g=1, days=0)), -2)
        self.assertEqual(last(*ONE, hire(g=HUGE)), -2)

    def test_it_may_not_begin_before_today(self):
        self.assertEqual(last(*ONE, ("days", 5), hire(day=4)), -22)
        self.assertEqual(last(*ONE, ("days", 5), hire(day=4, days=30)), -22)
        self.assertEqual(last(*ONE, ("days", 5), hire(day=5)), (0, 0, 0, 42))

    def test_how_many_days(self):
        for days, answer in ((0, -22), (1, (0, 0, 0, 42)), (30, (0, 0, 0, 42)), (31, -22), (HUGE, -22)):
            self.assertEqual(last(*ONE, hire(days=days)), answer, days)

    def test_no_days_from_400_on(self):
        for day, days, answer in (
            (399, 1, (0, 0, 0, 42)), (400, 1, -22), (399, 2, -22), (370, 30, (0, 0, 0, 42)), (371, 30, -22),
            (HUGE, 1, -22), (HUGE, HUGE, -22),
        ):
            self.assertEqual(last(*ONE, hire(day=day, days=days)), answer, (day, days))

    def test_nothing_can_be_hired_once_day_400_has_come(self):
        to_399 = [("days", 60)] * 6 + [("days", 39)]
        self.assertEqual(last(*ONE, *to_399, hire(day=399)), (0, 0, 0, 42))
        self.assertEqual(last(*ONE, *to_399, ("days", 1), hire(day=400)), -22)

    def test_kinds(self):
        skis = [("ski", 160, kind, 10, 100) for kind in (2, 1, 0)]
        shop = SHOP + skis + [BOOT, GUEST]
        for kind, answer in ((0, (0, 2, 0, 42)), (1, (0, 1, 0, 42)), (2, (0, 0, 0, 42)), (3, -22), (HUGE, -22)):
            self.assertEqual(last(*shop, hire(kind=kind)), answer, kind)

    def test_there_are_none_of_the_kind(self):
        self.assertEqual(last(*ONE, hire(kind=1)), -33)

    def test_40_at_most_however_they_are(self):
        told = ask(*ONE, *[hire(), ("cancel", 0)], *[call for h in range(1, 40) for call in (hire(), ("cancel", h))],
                   hire(), hire(days=0), hire(g=1), hire(kind=2), ("cancel", 39), ("cancel", 40))
        self.assertEqual(told[5:85:2], [(h, 0, 0, 42) for h in range(40)])
        self.assertEqual(told[85:], [-28, -22, -2, -28, -16, -2])

    def test_nothing_to_hire(self):
        self.assertEqual(last(*SHOP, GUEST, hire()), -33)
        self.assertEqual(last(*SHOP, GUEST, SKI, hire()), -33)
        self.assertEqual(last(*SHOP, GUEST, BOOT, hire()), -33)

    def test_a_refused_hire_books_nothing(self):
        told = ask(*ONE, hire(days=0), hire(kind=1), ("cancel", 0), hire(), hire(), ("cancel", 1))
        self.assertEqual(told[5:], [-22, -33, -2, (0, 0, 0, 42), -33, -2])


class SuitsTest(unittest.TestCase):
    def with_boots(self, foot, sole=300):
        return last(*SHOP, SKI, ("boot", foot, sole), GUEST, hire())

    def with_skis(self, length, least, most):
        return last(*SHOP, ("ski", length, 0, least, most), BOOT, GUEST, hire())

    def test_boots_10_too_long_and_11(self):
        for foot, answer in ((269, -33), (270, (0, 0, 0, 42)), (280, (0, 0, 0, 42)), (281, -33)):
            self.assertEqual(self.with_boots(foot), answer, foot)

    def test_boots_with_a_sole_longer_than_all(self):
        self.assertEqual(self.with_boots(270, 350), (0, 0, 0, 44))
        self.assertEqual(self.with_boots(270, 351), -33)

    def test_skis_10_too_long_or_short_and_11(self):
        for length, answer in ((149, -33), (150, (0, 0, 0, 42)), (170, (0, 0, 0, 42)), (171, -33)):
            self.assertEqual(self.with_skis(length, 5, 240), answer, length)

    def test_the_best_length_is_that_of_how_they_ski(self):
        for manner, length in ((1, 170), (2, 175), (3, 180)):
            guest = ("guest", 70, 175, 30, manner, 270)
            told = ask(*SHOP, ("ski", length + 1, 0, 5, 240), ("ski", length, 0, 5, 240), BOOT, guest, hire())
            self.assertEqual(told[-1], (0, 1, 0, 42), manner)

    def test_the_setting_is_within_the_range(self):
        for least, most, answer in (
            (42, 42, (0, 0, 0, 42)), (43, 240, -33), (5, 41, -33), (42, 240, (0, 0, 0, 42)), (5, 42, (0, 0, 0, 42)),
        ):
            self.assertEqual(self.with_skis(160, least, most), answer, (least, most))

    def test_a_setting_of_0_between_others(self):
        guest = ("guest", 60, 170, 30, 1, 270)
        told = ask(*SHOP, ("ski", 155, 0, 5, 240), BOOT, ("boot", 280, 301), guest, hire())
        self.assertEqual(told[-1], (0, 0, 1, 34))


class TakenTest(unittest.TestCase):
    def test_days_that_touch_and_days_that_clash(self):
        for day, days, answer in (
            (7, 3, (1, 0, 0, 42)), (7, 4, -33), (10, 1, -33), (11, 2, -33), (12, 1, -33), (12, 5, -33),
            (13, 1, (1, 0, 0, 42)), (5, 30, -33), (0, 10, (1, 0, 0, 42)),
        ):
            self.assertEqual(last(*ONE, hire(10, 3), hire(day, days)), answer, (day, days))

    def test_skis_or_boots_alone_are_not_enough(self):
        two_skis = SHOP + [SKI, SKI, BOOT, GUEST]
        self.assertEqual(ask(*two_skis, hire(), hire())[-2:], [(0, 0, 0, 42), -33])
        two_boots = SHOP + [SKI, BOOT, BOOT, GUEST]
        self.assertEqual(ask(*two_boots, hire(), hire())[-2:], [(0, 0, 0, 42), -33])
        self.assertEqual(ask(*TWO, hire(), hire(), hire())[-3:], [(0, 0, 0, 42), (1, 1, 1, 42), -33])

    def test_between_two_hires(self):
        told = ask(*ONE, hire(0, 3), hire(6, 3), hire(3, 4), hire(2, 4), hire(3, 3))
        self.assertEqual(told[-3:], [-33, -33, (2, 0, 0, 42)])

    def test_what_is_called_off_takes_nothing(self):
        self.assertEqual(last(*ONE, hire(0, 5), ("cancel", 0), hire(0, 5)), (1, 0, 0, 42))

    def test_what_is_back_takes_nothing(self):
        self.assertEqual(last(*ONE, hire(0, 5), ("give", 0), ("back", 0), hire(0, 5)), (1, 0, 0, 42))

    def test_what_is_out_has_its_days(self):
        told = ask(*ONE, hire(0, 5), ("give", 0), ("days", 1), hire(4, 1), hire(5, 1))
        self.assertEqual(told[-2:], [-33, (1, 0, 0, 42)])

    def test_what_is_late_is_taken_till_today(self):
        late = ONE + [hire(0, 2), ("give", 0), ("days", 5)]
        self.assertEqual(last(*late, hire(5, 1)), -33)
        self.assertEqual(last(*late, hire(6, 1)), (1, 0, 0, 42))
        self.assertEqual(last(*late, ("back", 0), hire(5, 1)), (1, 0, 0, 42))

    def test_what_was_never_fetched_is_not_late(self):
        self.assertEqual(last(*ONE, hire(0, 2), ("days", 5), hire(5, 1)), (1, 0, 0, 42))


class BestPairTest(unittest.TestCase):
    def pair(self, skis, boots, before=()):
        return last(*SHOP, *skis, *boots, GUEST, *before, hire())

    def test_the_boots_that_are_least_too_long(self):
        boots = [("boot", 280, 300), ("boot", 269, 300), ("boot", 272, 300), ("boot", 273, 300)]
        self.assertEqual(self.pair([SKI], boots), (0, 0, 2, 42))

    def test_boots_come_ahead_of_the_skis_length(self):
        skis = [("ski", 160, 0, 44, 100), ("ski", 150, 0, 42, 43)]
        boots = [("boot", 271, 350), ("boot", 270, 300)]
        self.assertEqual(self.pair(skis, boots), (0, 1, 1, 42))

    def test_the_skis_nearest_to_the_best_length(self):
        skis = [("ski", length, 0, 10, 100) for length in (169, 155, 164, 170)]
        self.assertEqual(self.pair(skis, [BOOT]), (0, 2, 0, 42))

    def test_nearer_skis_come_ahead_of_the_lesser_number_of_boots(self):
        skis = [("ski", 158, 0, 42, 42), ("ski", 161, 0, 44, 44)]
        self.assertEqual(self.pair(skis, [BOOT, ("boot", 270, 350)]), (0, 1, 1, 44))

    def test_longer_and_shorter_by_as_much_are_alike(self):
        for lengths in ((155, 165), (165, 155)):
            skis = [("ski", length, 0, 10, 100) for length in lengths]
            self.assertEqual(self.pair(skis, [BOOT]), (0, 0, 0, 42))

    def test_of_alike_ones_the_lesser_numbers(self):
        self.assertEqual(self.pair([SKI, SKI], [BOOT, BOOT]), (0, 0, 0, 42))
        skis = [("ski", 160, 0, 44, 44), ("ski", 160, 0, 42, 42)]
        self.assertEqual(self.pair(skis, [BOOT, ("boot", 270, 350)]), (0, 1, 0, 42))

    def test_two_pairs_alike_but_for_how_much_they_were_used(self):
        used = [hire(), ("give", 0), ("back", 0)]
        self.assertEqual(last(*TWO, *used, hire()), (1, 1, 0, 42))

    def test_the_length_comes_ahead_of_the_use(self):
        shop = SHOP + [SKI, ("ski", 161, 0, 10, 100), BOOT, GUEST]
        self.assertEqual(last(*shop, hire(), ("give", 0), ("back", 0), hire()), (1, 0, 0, 42))

    def test_the_use_comes_ahead_of_the_lesser_number_of_boots(self):
        skis = [("ski", 160, 0, 42, 42), ("ski", 160, 0, 44, 44)]
        shop = SHOP + skis + [BOOT, ("boot", 270, 350), GUEST]
        self.assertEqual(last(*shop, hire(), ("give", 0), ("back", 0), hire()), (1, 1, 1, 44))

    def test_it_is_the_days_in_all_that_count_served_or_not(self):
        used = [hire(), ("give", 0), ("back", 0), ("serve", 0)]
        self.assertEqual(last(*TWO, *used, hire()), (1, 1, 0, 42))

    def test_days_are_added_up_over_services(self):
        calls = [
            hire(0, 2), hire(0, 1), ("give", 0), ("give", 1), ("back", 1), ("days", 1), ("back", 0), ("serve", 0),
            ("days", 1), hire(2, 1), ("give", 2), ("back", 2), hire(2, 1),
        ]
        told = ask(*TWO, *calls)
        self.assertEqual((told[len(TWO) + 9], told[-1]), ((2, 1, 0, 42), (3, 0, 0, 42)))

    def test_what_was_only_booked_was_not_used(self):
        self.assertEqual(last(*TWO, hire(), ("cancel", 0), hire()), (1, 0, 0, 42))

    def test_what_is_out_counts_as_used_only_once_it_is_back(self):
        told = ask(*TWO, hire(0, 1), ("give", 0), hire(5, 1))
        self.assertEqual(told[-1], (1, 0, 0, 42))

    def test_the_best_one_that_is_not_taken(self):
        skis = [SKI, ("ski", 168, 0, 10, 100), ("ski", 163, 0, 10, 100)]
        boots = [BOOT, ("boot", 279, 250), ("boot", 275, 350)]
        told = ask(*SHOP, *skis, *boots, GUEST, hire(), hire(), hire(), hire())
        self.assertEqual(told[-4:], [(0, 0, 0, 42), (1, 2, 2, 44), (2, 1, 1, 40), -33])


class CancelTest(unittest.TestCase):
    def test_a_booked_one(self):
        self.assertEqual(ask(*ONE, hire(), ("cancel", 0))[-2:], [(0, 0, 0, 42), 0])

    def test_none_such(self):
        self.assertEqual(ask(*ONE, ("cancel", 0), hire(), ("cancel", 1), ("cancel", HUGE))[5:],
                         [-2, (0, 0, 0, 42), -2, -2])

    def test_only_what_is_booked(self):
        self.assertEqual(ask(*ONE, hire(), ("give", 0), ("cancel", 0), ("back", 0), ("cancel", 0))[6:],
                         [42, -16, (30, 0), -16])
        self.assertEqual(ask(*ONE, hire(), ("cancel", 0), ("cancel", 0))[-1], -16)

    def test_what_has_begun_but_was_not_fetched(self):
        self.assertEqual(last(*ONE, hire(), ("days", 3), ("cancel", 0)), 0)

    def test_no_other_is_called_off(self):
        told = ask(*ONE, hire(0), hire(1), hire(2), ("cancel", 1), hire(0), hire(2), hire(1))
        self.assertEqual(told[-3:], [-33, -33, (3, 0, 0, 42)])


if __name__ == "__main__":
    unittest.main()
