"""could, choices, longest."""

import unittest

from skihire.shop import answers
from tests.lines import BEGIN, BOOT, GUEST, HUGE, SHOP, SKI, ask, flat, last

ONE = SHOP + [SKI, BOOT, GUEST]
TWO = SHOP + [SKI, SKI, BOOT, BOOT, GUEST]

TO_399 = [("days", 60)] * 6 + [("days", 39)]


def hire(day=0, days=1, kind=0, g=0):
    return ("hire", g, day, days, kind)


def could(day=0, days=1, kind=0, g=0):
    return ("could", g, day, days, kind)


def choices(day=0, days=1, kind=0, g=0):
    return ("choices", g, day, days, kind)


def longest(day=0, kind=0, g=0):
    return ("longest", g, day, kind)


class RefusedAsHireIsTest(unittest.TestCase):
    def test_each_in_turn(self):
        for make in (could, choices):
            for asked, answer in (
                (make(g=1), -2), (make(g=HUGE), -2), (make(days=0), -22), (make(days=31), -22), (make(days=HUGE), -22),
                (make(day=400), -22), (make(day=399, days=2), -22), (make(day=371, days=30), -22),
                (make(day=HUGE), -22), (make(day=HUGE, days=HUGE), -22), (make(kind=3), -22), (make(kind=HUGE), -22),
                (make(g=1, days=0), -2), (make(g=1, kind=3), -2), (make(g=1, day=HUGE), -2),
            ):
                self.assertEqual(last(*ONE, asked), answer, asked)
                self.assertEqual(last(*ONE, ("hire",) + asked[1:]), answer, asked)

    def test_just_inside(self):
        for day, days in ((0, 1), (0, 30), (399, 1), (398, 2), (370, 30)):
            told = ask(*ONE, could(day, days), choices(day, days), hire(day, days))
            self.assertEqual(told[-3:], [1, (1, 0, 0), (0, 0, 0, 42)], (day, days))

    def test_not_before_today(self):
        self.assertEqual(ask(*ONE, ("days", 5), could(4), choices(4), longest(4), could(4, 30))[-4:], [-22] * 4)
        self.assertEqual(ask(*ONE, ("days", 5), could(5), choices(5), longest(5))[-3:], [1, (1, 0, 0), 30])

    def test_longest_is_refused_as_for_one_day(self):
        for asked, answer in (
            (longest(g=1), -2), (longest(g=HUGE), -2), (longest(day=400), -22), (longest(day=HUGE), -22),
            (longest(kind=3), -22), (longest(kind=HUGE), -22), (longest(g=1, day=400), -2), (longest(g=1, kind=3), -2),
            (longest(day=399), 1), (longest(kind=2), 0),
        ):
            self.assertEqual(last(*ONE, asked), answer, asked)

    def test_none_once_day_400_has_come(self):
        self.assertEqual(ask(*ONE, *TO_399, could(399), choices(399), longest(399))[-3:], [1, (1, 0, 0), 1])
        self.assertEqual(ask(*ONE, *TO_399, ("days", 1), could(400), choices(400), longest(400))[-3:], [-22] * 3)

    def test_no_chart_comes_first(self):
        calls = [could(), choices(), longest(), could(g=9, days=0), choices(g=9, days=0), longest(g=9, kind=9)]
        self.assertEqual(ask(BEGIN, SKI, BOOT, GUEST, *calls)[4:], [-6] * 6)

    def test_no_guest(self):
        self.assertEqual(ask(*SHOP, could(), choices(), longest())[2:], [-2] * 3)

    def test_40_hires_hinder_none_of_them(self):
        booked = [call for h in range(40) for call in (hire(), ("cancel", h))]
        told = ask(*ONE, *booked, hire(), could(), choices(), longest())
        self.assertEqual(told[-4:], [-28, 1, (1, 0, 0), 30])


class CouldTest(unittest.TestCase):
    def test_there_is_a_pair_or_not(self):
        self.assertEqual(last(*ONE, could()), 1)
        self.assertEqual(last(*ONE, could(kind=1)), 0)
        self.assertEqual(last(*SHOP, GUEST, could()), 0)
        self.assertEqual(last(*SHOP, SKI, GUEST, could()), 0)
        self.assertEqual(last(*SHOP, BOOT, GUEST, could()), 0)

    def test_it_is_1_however_many_pairs_there_are(self):
        self.assertEqual(last(*TWO, could()), 1)

    def test_taken_days(self):
        for day, days, answer in ((7, 3, 1), (7, 4, 0), (10, 1, 0), (12, 1, 0), (13, 1, 1), (5, 30, 0)):
            self.assertEqual(last(*ONE, hire(10, 3), could(day, days)), answer, (day, days))

    def test_what_suits(self):
        for boot, answer in ((("boot", 269, 300), 0), (("boot", 280, 300), 1), (("boot", 281, 300), 0),
                             (("boot", 270, 351), 0)):
            self.assertEqual(last(*SHOP, SKI, boot, GUEST, could()), answer, boot)
        for ski, answer in ((("ski", 149, 0, 5, 240), 0), (("ski", 150, 0, 42, 42), 1), (("ski", 160, 0, 43, 240), 0)):
            self.assertEqual(last(*SHOP, ski, BOOT, GUEST, could()), answer, ski)

    def test_skis_that_suit_in_no_boots_that_suit(self):
        skis = [("ski", 160, 0, 44, 44)]
        self.assertEqual(last(*SHOP, *skis, BOOT, ("boot", 300, 350), GUEST, could()), 0)
        self.assertEqual(last(*SHOP, *skis, BOOT, ("boot", 280, 350), GUEST, could()), 1)


class ChoicesTest(unittest.TestCase):
    def test_none_one_and_several(self):
        self.assertEqual(last(*SHOP, GUEST, choices()), 0)
        self.assertEqual(last(*ONE, choices()), (1, 0, 0))
        self.assertEqual(last(*TWO, choices()), (4, 0, 0, 1, 0, 0, 1, 1, 1))

    def test_how_many_numbers_are_answered(self):
        self.assertEqual(answers(flat(ONE + [choices()]))[-4:], [3, 1, 0, 0])
        self.assertEqual(answers(flat(SHOP + [GUEST, choices()]))[-2:], [1, 0])

    def test_by_boots_then_skis_rising_not_the_best_first(self):
        skis = [("ski", 170, 0, 42, 100), ("ski", 160, 1, 10, 100), ("ski", 160, 0, 10, 43), ("ski", 165, 0, 10, 100)]
        boots = [("boot", 280, 300), ("boot", 269, 300), ("boot", 270, 350), ("boot", 275, 250)]
        told = ask(*SHOP, *skis, *boots, GUEST, choices(), hire())
        self.assertEqual(told[-2], (7, 0, 0, 2, 0, 3, 0, 0, 2, 3, 2, 2, 3, 3, 3))
        self.assertEqual(told[-1], (0, 3, 2, 44))

    def test_all_pairs_of_16_and_16(self):
        told = last(*SHOP, *[SKI] * 16, *[BOOT] * 16, GUEST, choices(days=30))
        self.assertEqual(told, (256,) + tuple(number for b in range(16) for s in range(16) for number in (s, b)))

    def test_what_is_taken_is_no_choice(self):
        told = ask(*TWO, hire(3, 2), choices(0, 3), choices(0, 4), choices(4, 1), choices(5, 1))
        self.assertEqual(told[-4:], [(4, 0, 0, 1, 0, 0, 1, 1, 1), (1, 1, 1), (1, 1, 1), (4, 0, 0, 1, 0, 0, 1, 1, 1)])

    def test_use_does_not_change_the_order(self):
        told = ask(*TWO, hire(), ("give", 0), ("back", 0), choices(), hire())
        self.assertEqual(told[-2:], [(4, 0, 0, 1, 0, 0, 1, 1, 1), (1, 1, 0, 42)])

    def test_worn_skis_are_a_choice_as_they_may_be_served_by_then(self):
        told = ask(*ONE, hire(0, 5), ("give", 0), ("days", 4), ("back", 0), ("worn",), choices(4), could(4), longest(4))
        self.assertEqual(told[-4:], [(1, 0), (1, 0, 0), 1, 30])

    def test_of_the_kind_asked_for(self):
        skis = [("ski", 160, kind, 10, 100) for kind in (0, 1, 2, 1)]
        told = ask(*SHOP, *skis, BOOT, GUEST, choices(kind=0), choices(kind=1), choices(kind=2))
        self.assertEqual(told[-3:], [(1, 0, 0), (2, 1, 0, 3, 0), (1, 2, 0)])


class LongestTest(unittest.TestCase):
    def test_not_even_for_one(self):
        self.assertEqual(last(*SHOP, GUEST, longest()), 0)
        self.assertEqual(last(*ONE, longest(kind=1)), 0)
        self.assertEqual(last(*ONE, hire(5, 1), longest(5)), 0)

    def test_30_at_most(self):
        self.assertEqual(last(*ONE, longest()), 30)
        for booked, answer in ((28, 28), (29, 29), (30, 30), (31, 30)):
            self.assertEqual(last(*ONE, hire(booked, 1), longest()), answer, booked)

    def test_its_days_end_at_400(self):
        for day, answer in ((369, 30), (370, 30), (371, 29), (390, 10), (398, 2), (399, 1)):
            told = ask(*ONE, longest(day), could(day, answer), could(day, answer + 1))
            self.assertEqual(told[-3:], [answer, 1, -22], day)

    def test_between_two_hires(self):
        told = ask(*ONE, hire(2, 3), hire(9, 2), *[longest(day) for day in range(13)])
        self.assertEqual(told[-13:], [2, 1, 0, 0, 0, 4, 3, 2, 1, 0, 0, 30, 30])

    def test_near_400_between_a_hire_and_the_end(self):
        self.assertEqual(last(*ONE, hire(395, 1), longest(390)), 5)
        self.assertEqual(last(*ONE, hire(395, 1), longest(396)), 4)

    def test_it_is_one_pair_for_all_the_days(self):
        shop = SHOP + [SKI, ("ski", 161, 0, 10, 100), BOOT, ("boot", 271, 300), GUEST]
        told = ask(*shop, hire(5, 3), hire(0, 5), ("swap", 1, 1), longest(0), could(0, 5), could(0, 6), could(5, 3))
        self.assertEqual(told[-7:], [(0, 0, 0, 42), (1, 0, 0, 42), 0, 5, 1, 0, 1])

    def test_as_soon_as_one_of_two_is_there(self):
        told = ask(*TWO, hire(0, 3), hire(0, 6), longest(0), longest(2), longest(3), longest(6))
        self.assertEqual(told[-4:], [0, 0, 30, 30])

    def test_boots_that_are_taken_earlier_than_the_skis(self):
        other = ("guest", 70, 205, 30, 1, 270)
        told = ask(*SHOP, SKI, ("ski", 190, 0, 10, 100), BOOT, GUEST, other, hire(6, 1, g=1), hire(9, 1), longest())
        self.assertEqual(told[-3:], [(0, 1, 0, 42), (1, 0, 0, 42), 6])

    def test_the_pair_that_is_there_longest_need_not_be_the_best(self):
        told = ask(*SHOP, SKI, ("ski", 168, 0, 10, 100), BOOT, ("boot", 280, 300), GUEST, hire(4, 1), longest(), hire(0, 1),
                   hire(0, 30))
        self.assertEqual(told[-3:], [30, (1, 0, 0, 42), (2, 1, 1, 42)])

    def test_what_is_out_and_late_has_all_days_till_today(self):
        late = ONE + [hire(0, 2), ("give", 0), ("days", 5)]
        self.assertEqual(ask(*late, longest(5), could(5), choices(5), longest(6), could(6), choices(6))[-6:],
                         [0, 0, 0, 30, 1, (1, 0, 0)])
        self.assertEqual(ask(*late, ("days", 1), longest(6), longest(7))[-2:], [0, 30])
        self.assertEqual(ask(*late, ("back", 0), longest(5))[-1], 30)

    def test_what_was_never_fetched_is_there(self):
        self.assertEqual(last(*ONE, hire(0, 2), ("days", 5), longest(5)), 30)

    def test_whoever_can_have_it_long_can_have_it_less_long(self):
        booked = [hire(3, 2), hire(7, 4), hire(12, 1), hire(4, 5), hire(15, 2)]
        for day in range(20):
            told = ask(*TWO, *booked, longest(day), *[could(day, days) for days in range(1, 31)])
            most = told[-31]
            self.assertEqual(told[-30:], [1] * most + [0] * (30 - most), day)


class TogetherTest(unittest.TestCase):
    SHOP = SHOP + [
        SKI, ("ski", 165, 0, 43, 100), ("ski", 152, 1, 10, 42), BOOT, ("boot", 275, 350), ("boot", 272, 251), GUEST,
        ("guest", 60, 170, 30, 2, 270), hire(2, 3), hire(4, 4, kind=1, g=1), hire(0, 2), ("give", 2), ("days", 3),
    ]

    def test_could_is_1_just_where_choices_tells_a_pair_and_hire_books_one(self):
        seen = {}
        for g in range(2):
            for kind in range(3):
                for day in range(3, 10):
                    for days in (1, 2, 4):
                        asked = (g, day, days, kind)
                        told = ask(*self.SHOP, ("could",) + asked, ("choices",) + asked, ("hire",) + asked)[-3:]
                        seen[told[0]] = True
                        if told[0] == 0:
                            self.assertEqual(told, [0, 0, -33], asked)
                        else:
                            self.assertEqual((told[0], len(told[1])), (1, 1 + 2 * told[1][0]), asked)
                            pairs = list(zip(told[1][2::2], told[1][1::2]))
                            self.assertEqual(pairs, sorted(set(pairs)), asked)
                            self.assertIn((told[2][2], told[2][1]), pairs, asked)
        self.assertEqual(sorted(seen), [0, 1])

    def test_longest_is_the_most_days_that_could_be_hired(self):
        for g in range(2):
            for kind in range(3):
                for day in range(3, 12):
                    told = ask(*self.SHOP, longest(day, kind, g), *[could(day, n, kind, g) for n in range(1, 31)])
                    self.assertEqual(told[-31], sum(told[-30:]), (g, kind, day))


if __name__ == "__main__":
    unittest.main()
