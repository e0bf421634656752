"""swap."""

import unittest

from tests.lines import BEGIN, BOOT, GUEST, HUGE, SHOP, SKI, ask, last

OTHER = ("ski", 161, 0, 10, 100)
KIND_1 = ("ski", 160, 1, 10, 100)
TOO_LONG = ("ski", 171, 0, 10, 100)

# Hire 0 has skis 0 and boots 0 from day 2 to 4.
BOOKED = SHOP + [SKI, OTHER, BOOT, BOOT, GUEST, ("hire", 0, 2, 3, 0)]


def hire(day, days, kind=0, g=0):
    return ("hire", g, day, days, kind)


class SwapTest(unittest.TestCase):
    def test_it_answers_which_it_had_and_has_the_others(self):
        told = ask(*BOOKED, ("swap", 0, 1), ("look", 0), ("swap", 0, 0), ("look", 0))
        self.assertEqual(told[-4:], [0, (0, 0, 2, 3, 1, 0), 1, (0, 0, 2, 3, 0, 0)])

    def test_those_it_had_are_free_and_those_it_has_are_taken(self):
        told = ask(*BOOKED, ("swap", 0, 1), ("plan", 0), ("plan", 1), ("busy", 2), ("choices", 0, 2, 3, 0))
        self.assertEqual(told[-4:], [0, (1, 0), (1, 1), (1, 0, 1)])

    def test_it_is_the_others_that_are_given_used_and_served(self):
        told = ask(*BOOKED, ("swap", 0, 1), ("days", 2), ("give", 0), ("serve", 0), ("serve", 1), ("days", 1), ("back", 0),
                   ("serve", 0), ("serve", 1))
        self.assertEqual(told[-7:], [42, 0, -17, 3, (70, 0), 0, 2])

    def test_no_other_hire_is_changed(self):
        told = ask(*BOOKED, hire(8, 1), hire(9, 1), ("swap", 1, 1), ("look", 0), ("look", 1), ("look", 2))
        self.assertEqual(told[-4:], [0, (0, 0, 2, 3, 0, 0), (0, 0, 8, 1, 1, 0), (0, 0, 9, 1, 0, 0)])

    def test_a_hire_that_has_begun_but_was_not_fetched(self):
        self.assertEqual(last(*BOOKED, ("days", 9), ("swap", 0, 1)), 0)

    def test_worn_skis_may_be_swapped_for(self):
        worn = [hire(0, 5), ("give", 0), ("days", 4), ("back", 0), ("worn",)]
        told = ask(*SHOP, SKI, OTHER, BOOT, GUEST, *worn, hire(9, 1), ("swap", 1, 1), ("swap", 1, 0))
        self.assertEqual(told[-4:], [(1, 0), (1, 0, 0, 42), 0, 1])


class RefusedTest(unittest.TestCase):
    def test_no_chart_comes_first(self):
        self.assertEqual(ask(BEGIN, SKI, ("swap", 0, 0), ("swap", HUGE, HUGE))[-2:], [-6, -6])

    def test_no_such_hire_or_skis(self):
        told = ask(*BOOKED, ("swap", 1, 1), ("swap", HUGE, 1), ("swap", 0, 2), ("swap", 0, HUGE), ("swap", 1, 2))
        self.assertEqual(told[-5:], [-2] * 5)
        self.assertEqual(last(*SHOP, SKI, ("swap", 0, 0)), -2)

    def test_none_such_comes_ahead_of_not_booked(self):
        self.assertEqual(last(*BOOKED, ("cancel", 0), ("swap", 0, 2)), -2)

    def test_it_is_not_booked(self):
        self.assertEqual(last(*BOOKED, ("cancel", 0), ("swap", 0, 1)), -16)
        self.assertEqual(last(*BOOKED, ("days", 2), ("give", 0), ("swap", 0, 1)), -16)
        self.assertEqual(last(*BOOKED, ("days", 2), ("give", 0), ("back", 0), ("swap", 0, 1)), -16)

    def test_not_booked_comes_ahead_of_having_them(self):
        for calls in ([("cancel", 0)], [("days", 2), ("give", 0)], [("days", 2), ("give", 0), ("back", 0)]):
            self.assertEqual(last(*BOOKED, *calls, ("swap", 0, 0)), -16, calls)

    def test_not_booked_comes_ahead_of_taken_and_of_what_can_not_be(self):
        self.assertEqual(last(*BOOKED, ("cancel", 0), hire(2, 3), ("swap", 0, 0)), -16)
        self.assertEqual(last(*BOOKED, KIND_1, ("cancel", 0), ("swap", 0, 2)), -16)

    def test_it_has_these_skis(self):
        self.assertEqual(last(*BOOKED, ("swap", 0, 0)), -17)
        self.assertEqual(last(*BOOKED, ("swap", 0, 1), ("swap", 0, 1)), -17)

    def test_having_them_comes_ahead_of_taken(self):
        # Hire 0 is late with the very skis that hire 1 waits for.
        told = ask(*SHOP, SKI, BOOT, GUEST, hire(0, 1), hire(1, 1), ("give", 0), ("days", 1), ("swap", 1, 0))
        self.assertEqual(told[-1], -17)

    def test_having_them_comes_ahead_of_what_can_not_be(self):
        self.assertEqual(last(*BOOKED, ("becomes", 0, 70, 200, 30, 1), ("swap", 0, 0)), -17)

    def test_they_are_taken_on_some_of_its_days(self):
        for day, days, answer in ((0, 2, 0), (1, 2, -28), (2, 1, -28), (3, 1, -28), (4, 1, -28), (4, 5, -28), (0, 30, -28),
                                  (5, 1, 0)):
            told = ask(*SHOP, SKI, OTHER, BOOT, BOOT, GUEST, hire(day, days), ("swap", 0, 1), hire(2, 3), ("swap", 1, 1))
            self.assertEqual(told[-1], answer, (day, days))

    def test_they_are_out(self):
        shop = SHOP + [SKI, OTHER, BOOT, BOOT, GUEST, hire(0, 1), hire(0, 1), ("give", 1), hire(2, 2)]
        self.assertEqual(ask(*shop, ("look", 2), ("swap", 2, 1))[-2:], [(0, 0, 2, 2, 0, 0), 0])
        self.assertEqual(last(*shop, ("days", 1), ("swap", 2, 1)), 0)
        self.assertEqual(last(*shop, ("days", 2), ("swap", 2, 1)), -28)
        self.assertEqual(last(*shop, ("days", 2), ("back", 1), ("swap", 2, 1)), 0)

    def test_what_is_back_or_called_off_takes_none(self):
        shop = SHOP + [SKI, OTHER, BOOT, BOOT, GUEST, hire(0, 1), hire(0, 1)]
        self.assertEqual(last(*shop, ("swap", 0, 1)), -28)
        self.assertEqual(last(*shop, ("cancel", 1), ("swap", 0, 1)), 0)
        self.assertEqual(last(*shop, ("give", 1), ("swap", 0, 1)), -28)
        self.assertEqual(last(*shop, ("give", 1), ("back", 1), ("swap", 0, 1)), 0)

    def test_taken_comes_ahead_of_another_kind(self):
        told = ask(*BOOKED, KIND_1, hire(4, 1, kind=1), ("swap", 0, 2), ("cancel", 1), ("swap", 0, 2))
        self.assertEqual(told[-3:], [-28, 0, -33])

    def test_taken_comes_ahead_of_not_suiting(self):
        tall = ("guest", 70, 186, 30, 1, 270)
        told = ask(*BOOKED, TOO_LONG, tall, hire(4, 1, g=1), ("swap", 0, 2), ("cancel", 1), ("swap", 0, 2))
        self.assertEqual(told[-4:], [(1, 2, 1, 42), -28, 0, -33])

    def test_another_kind(self):
        for kind, answer in ((0, 0), (1, -33), (2, -33)):
            self.assertEqual(last(*BOOKED, ("ski", 160, kind, 10, 100), ("swap", 0, 2)), answer, kind)

    def test_kinds_other_than_0(self):
        told = ask(*SHOP, KIND_1, KIND_1, SKI, BOOT, GUEST, hire(0, 1, kind=1), ("swap", 0, 1), ("swap", 0, 2))
        self.assertEqual(told[-2:], [0, -33])

    def test_its_own_kind_is_that_of_its_skis_whatever_their_number(self):
        skis = [SKI, SKI, KIND_1, KIND_1]
        told = ask(*SHOP, *skis, BOOT, GUEST, hire(0, 1, kind=1), ("swap", 0, 0), ("swap", 0, 1), ("swap", 0, 3))
        self.assertEqual(told[-4:], [(0, 2, 0, 42), -33, -33, 2])

    def test_lengths_that_do_not_suit(self):
        for length, answer in ((149, -33), (150, 0), (170, 0), (171, -33)):
            self.assertEqual(last(*BOOKED, ("ski", length, 0, 10, 100), ("swap", 0, 2)), answer, length)

    def test_settings_that_do_not_suit(self):
        for least, most, answer in ((42, 42, 0), (43, 240, -33), (5, 41, -33), (42, 240, 0), (5, 42, 0)):
            self.assertEqual(last(*BOOKED, ("ski", 160, 0, least, most), ("swap", 0, 2)), answer, (least, most))

    def test_it_is_in_its_own_boots_that_they_must_suit(self):
        skis = [("ski", 160, 0, 42, 42), ("ski", 160, 0, 44, 44), ("ski", 160, 0, 42, 42)]
        told = ask(*SHOP, *skis, BOOT, ("boot", 270, 350), GUEST, hire(0, 1), ("swap", 0, 1), ("swap", 0, 2))
        self.assertEqual(told[-3:], [(0, 0, 0, 42), -33, 0])

    def test_it_is_its_own_guest_whom_they_must_suit(self):
        tall = ("guest", 70, 205, 30, 1, 270)
        told = ask(*BOOKED, ("ski", 190, 0, 10, 100), tall, ("swap", 0, 2), hire(9, 1, g=1), ("swap", 1, 1))
        self.assertEqual(told[-3:], [-33, (1, 2, 0, 42), -33])

    def test_it_is_the_guest_as_they_are_now(self):
        for weight, height, answer in ((35, 175, 0), (60, 175, -33), (70, 186, 0), (70, 187, -33), (70, 170, -33)):
            told = ask(*BOOKED, ("becomes", 0, weight, height, 30, 1), ("swap", 0, 1), ("becomes", 0, 70, 175, 30, 1),
                       ("swap", 0, 1))
            self.assertEqual(told[-3:], [answer, 0, -17 if answer == 0 else 0], (weight, height))

    def test_a_refused_swap_changes_nothing(self):
        shop = BOOKED + [KIND_1, hire(3, 1)]
        looks = [("look", 0), ("look", 1), ("plan", 0), ("plan", 1), ("plan", 2), ("sums",), ("state",)]
        plain = ask(*shop, *looks)[-7:]
        for call, answer in ((("swap", 0, 0), -17), (("swap", 0, 1), -28), (("swap", 0, 2), -33), (("swap", 0, 3), -2)):
            self.assertEqual(ask(*shop, call, *looks)[-8:], [answer] + plain, call)


if __name__ == "__main__":
    unittest.main()
