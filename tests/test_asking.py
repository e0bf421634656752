"""code, setting, ideal, boots, skis."""

import unittest

from skihire.shop import answers
from tests.lines import BEGIN, BOOT, GUEST, HUGE, SHOP, SKI, ask, flat, last


def code(weight, height, age, manner):
    return last(*SHOP, ("guest", weight, height, age, manner, 270), ("code", 0))


def codes(*bodies):
    return [code(*body) for body in bodies]


class CodeTest(unittest.TestCase):
    def test_a_weight_just_at_the_charts(self):
        for weight, answer in ((10, 0), (20, 0), (21, 1), (40, 1), (41, 2), (60, 2), (61, 3), (80, 3), (81, 3), (150, 3)):
            self.assertEqual(code(weight, 210, 30, 1), answer, weight)

    def test_a_height_just_at_the_charts(self):
        for height, answer in ((80, 0), (120, 0), (121, 1), (150, 1), (151, 2), (170, 2), (171, 3), (190, 3), (210, 3)):
            self.assertEqual(code(150, height, 30, 1), answer, height)

    def test_the_lesser_of_the_two(self):
        self.assertEqual(codes((35, 180, 30, 1), (75, 130, 30, 1), (35, 160, 30, 1)), [1, 1, 1])

    def test_how_they_ski(self):
        self.assertEqual(codes((30, 140, 30, 1), (30, 140, 30, 2), (30, 140, 30, 3)), [1, 2, 3])

    def test_the_last_one_at_most(self):
        self.assertEqual(codes((50, 160, 30, 3), (70, 180, 30, 2), (150, 210, 49, 3)), [3, 3, 3])

    def test_under_10_years(self):
        self.assertEqual(codes((30, 140, 2, 1), (30, 140, 9, 1), (30, 140, 10, 1)), [0, 0, 1])

    def test_49_and_50_years(self):
        self.assertEqual(codes((50, 160, 49, 1), (50, 160, 50, 1), (50, 160, 99, 1)), [2, 1, 1])

    def test_0_at_least(self):
        self.assertEqual(codes((15, 100, 9, 1), (15, 100, 50, 1)), [0, 0])

    def test_a_child_who_skis_as_3(self):
        self.assertEqual(codes((15, 100, 9, 3), (15, 100, 9, 2), (30, 140, 9, 3)), [1, 0, 2])

    def test_the_age_takes_1_off_what_the_last_code_bounds(self):
        self.assertEqual(codes((70, 180, 9, 3), (70, 180, 50, 2), (50, 160, 9, 3)), [2, 2, 2])

    def test_a_chart_of_one_code(self):
        one = ("chart", [50], [150], [300], [10])
        for guest in (("guest", 10, 80, 9, 1, 270), ("guest", 150, 210, 30, 3, 270), ("guest", 50, 150, 50, 3, 270)):
            self.assertEqual(last(BEGIN, one, guest, ("code", 0)), 0, guest)

    def test_a_chart_of_16_codes(self):
        rows = [10 + 5 * k for k in range(16)]
        wide = ("chart", rows, [80 + 5 * k for k in range(16)], [300], [0] * 16)
        told = ask(BEGIN, wide, ("guest", 80, 150, 30, 1, 270), ("code", 0), ("becomes", 0, 80, 150, 30, 2), ("code", 0),
                   ("becomes", 0, 85, 155, 50, 3), ("code", 0))
        self.assertEqual(told[3::2], [14, 15, 14])

    def test_whoever_skis_wilder_never_has_a_lesser_code(self):
        for age in (2, 9, 10, 49, 50, 99):
            for weight in (10, 20, 21, 60, 80, 81, 150):
                three = [code(weight, 175, age, manner) for manner in (1, 2, 3)]
                self.assertEqual(three, sorted(three), (age, weight))
                self.assertTrue(0 <= three[0] and three[2] <= 3, (age, weight))

    def test_none_such(self):
        self.assertEqual(ask(*SHOP, ("code", 0), GUEST, ("code", 0), ("code", 1), ("code", HUGE))[2:], [-2, 0, 3, -2, -2])


class SettingTest(unittest.TestCase):
    def setting(self, guest, sole):
        return last(*SHOP, guest, ("boot", 270, sole), ("setting", 0, 0))

    def test_a_sole_just_at_the_charts(self):
        for sole, answer in ((180, 40), (249, 40), (250, 40), (251, 42), (300, 42), (301, 44), (350, 44)):
            self.assertEqual(self.setting(GUEST, sole), answer, sole)

    def test_a_sole_longer_than_all(self):
        self.assertEqual(self.setting(GUEST, 351), -33)
        self.assertEqual(self.setting(GUEST, 400), -33)

    def test_a_setting_of_0_between_others(self):
        guest = ("guest", 60, 170, 30, 1, 270)
        self.assertEqual([self.setting(guest, sole) for sole in (250, 251, 300, 301)], [30, -33, -33, 34])

    def test_a_chart_of_one_column_and_of_8(self):
        one = ("chart", [50], [150], [300], [240])
        boots = [("boot", 270, 300), ("boot", 270, 301), ("setting", 0, 0), ("setting", 0, 1)]
        self.assertEqual(ask(BEGIN, one, GUEST, *boots)[5:], [240, -33])
        eight = ("chart", [50], [150], [293, 294, 295, 296, 297, 298, 299, 300], [1, 2, 3, 4, 5, 6, 7, 8])
        self.assertEqual(ask(BEGIN, eight, GUEST, *boots)[5:], [8, -33])

    def test_boots_need_not_suit(self):
        self.assertEqual(last(*SHOP, GUEST, ("boot", 150, 300), ("setting", 0, 0)), 42)

    def test_none_such(self):
        told = ask(*SHOP, ("setting", 0, 0), GUEST, ("setting", 0, 0), ("boot", 270, 400), ("setting", 1, 0),
                   ("setting", 0, 1), ("setting", HUGE, 0), ("setting", 0, HUGE), ("setting", 0, 0))
        self.assertEqual(told[2:], [-2, 0, -2, 0, -2, -2, -2, -2, -33])


class IdealTest(unittest.TestCase):
    def test_height_less_15_and_more_for_how_they_ski(self):
        for height, manner, answer in ((175, 1, 160), (175, 2, 165), (175, 3, 170), (80, 1, 65), (210, 3, 205)):
            self.assertEqual(last(BEGIN, ("guest", 70, height, 30, manner, 270), ("ideal", 0)), answer)

    def test_none_such(self):
        self.assertEqual(ask(BEGIN, ("ideal", 0), GUEST, ("ideal", 0), ("ideal", 1), ("ideal", HUGE)),
                         [0, -2, 0, 160, -2, -2])


class BootsTest(unittest.TestCase):
    def boots(self, *feet):
        return last(BEGIN, GUEST, *[("boot", foot, 300) for foot in feet], ("boots", 0))

    def test_none_one_and_several(self):
        self.assertEqual(self.boots(), 0)
        self.assertEqual(self.boots(200, 300), 0)
        self.assertEqual(self.boots(200, 270, 300), (1, 1))
        self.assertEqual(self.boots(280, 200, 270, 275, 300, 271), (4, 0, 2, 3, 5))
        self.assertEqual(self.boots(*[270] * 16), (16,) + tuple(range(16)))

    def test_how_many_numbers_are_answered(self):
        self.assertEqual(answers(flat([BEGIN, GUEST, ("boots", 0)])), [1, 0, 1, 0, 1, 0])
        self.assertEqual(answers(flat([BEGIN, GUEST, BOOT, BOOT, ("boots", 0)]))[-4:], [3, 2, 0, 1])

    def test_10_too_long_and_11(self):
        self.assertEqual(self.boots(269, 270, 280, 281), (2, 1, 2))

    def test_the_ends_of_the_feet(self):
        boots = [("boot", 150, 300), ("boot", 350, 300)]
        for foot, answer in ((150, (1, 0)), (151, 0), (339, 0), (340, (1, 1)), (350, (1, 1))):
            self.assertEqual(last(BEGIN, *boots, ("guest", 70, 175, 30, 1, foot), ("boots", 0)), answer, foot)

    def test_each_guest_has_their_own(self):
        told = ask(BEGIN, BOOT, ("boot", 230, 280), GUEST, ("guest", 70, 175, 30, 1, 225), ("boots", 0), ("boots", 1))
        self.assertEqual(told[-2:], [(1, 0), (1, 1)])

    def test_neither_sole_nor_setting_nor_hires_count(self):
        self.assertEqual(last(*SHOP, GUEST, ("boot", 270, 400), ("boots", 0)), (1, 0))
        self.assertEqual(last(*SHOP, SKI, BOOT, GUEST, ("hire", 0, 0, 1, 0), ("give", 0), ("boots", 0)), (1, 0))

    def test_the_foot_stays_whatever_a_guest_becomes(self):
        self.assertEqual(last(BEGIN, BOOT, GUEST, ("becomes", 0, 150, 210, 99, 3), ("boots", 0)), (1, 0))

    def test_none_such(self):
        self.assertEqual(ask(BEGIN, ("boots", 0), GUEST, ("boots", 0), ("boots", 1), ("boots", HUGE)),
                         [0, -2, 0, 0, -2, -2])


class SkisTest(unittest.TestCase):
    def skis(self, *skis, boot=BOOT, guest=GUEST):
        return last(*SHOP, *skis, boot, guest, ("skis", 0, 0))

    def test_none_one_and_several(self):
        off = ("ski", 100, 0, 5, 240)
        self.assertEqual(self.skis(), 0)
        self.assertEqual(self.skis(off, off), 0)
        self.assertEqual(self.skis(off, SKI, off), (1, 1))
        self.assertEqual(self.skis(SKI, off, SKI, SKI), (3, 0, 2, 3))
        self.assertEqual(self.skis(*[SKI] * 16), (16,) + tuple(range(16)))

    def test_how_many_numbers_are_answered(self):
        self.assertEqual(answers(flat(SHOP + [SKI, SKI, BOOT, GUEST, ("skis", 0, 0)]))[-4:], [3, 2, 0, 1])

    def test_of_any_kind(self):
        self.assertEqual(self.skis(*[("ski", 160, kind, 10, 100) for kind in (2, 0, 1)]), (3, 0, 1, 2))

    def test_lengths(self):
        self.assertEqual(self.skis(*[("ski", length, 0, 5, 240) for length in (149, 150, 160, 170, 171)]), (3, 1, 2, 3))
        faster = ("guest", 70, 175, 30, 3, 270)
        self.assertEqual(self.skis(*[("ski", length, 0, 5, 240) for length in (159, 160, 180, 181)], guest=faster),
                         (2, 1, 2))

    def test_settings(self):
        ranges = ((42, 42), (43, 240), (5, 41), (42, 240), (5, 42))
        self.assertEqual(self.skis(*[("ski", 160, 0, least, most) for least, most in ranges]), (3, 0, 3, 4))

    def test_a_setting_of_0_between_others_and_a_sole_longer_than_all(self):
        guest = ("guest", 60, 170, 30, 1, 270)
        wide = ("ski", 155, 0, 5, 240)
        for sole, answer in ((250, (1, 0)), (251, 0), (300, 0), (301, (1, 0)), (350, (1, 0)), (351, 0), (400, 0)):
            self.assertEqual(self.skis(wide, boot=("boot", 270, sole), guest=guest), answer, sole)

    def test_boots_need_not_suit(self):
        for foot in (150, 269, 281, 350):
            self.assertEqual(self.skis(SKI, boot=("boot", foot, 300)), (1, 0), foot)

    def test_it_is_these_boots_and_this_guest_that_count(self):
        skis = [("ski", 160, 0, 42, 42), ("ski", 160, 0, 44, 44), ("ski", 130, 0, 5, 240)]
        told = ask(*SHOP, *skis, BOOT, ("boot", 270, 350), GUEST, ("guest", 30, 140, 30, 1, 220), ("skis", 0, 0),
                   ("skis", 0, 1), ("skis", 1, 0))
        self.assertEqual(told[-3:], [(1, 0), (1, 1), (1, 2)])

    def test_hires_do_not_count_but_what_the_guest_became_does(self):
        told = ask(*SHOP, SKI, BOOT, GUEST, ("hire", 0, 0, 1, 0), ("give", 0), ("skis", 0, 0),
                   ("becomes", 0, 70, 186, 30, 1), ("skis", 0, 0))
        self.assertEqual((told[-3], told[-1]), ((1, 0), 0))

    def test_none_such(self):
        told = ask(*SHOP, ("skis", 0, 0), GUEST, ("skis", 0, 0), BOOT, ("skis", 1, 0), ("skis", 0, 1), ("skis", HUGE, 0),
                   ("skis", 0, HUGE), ("skis", 0, 0))
        self.assertEqual(told[2:], [-2, 0, -2, 0, -2, -2, -2, -2, 0])

    def test_no_chart_comes_first(self):
        self.assertEqual(ask(BEGIN, SKI, BOOT, GUEST, ("skis", 0, 0), ("skis", 9, 9))[-2:], [-6, -6])


if __name__ == "__main__":
    unittest.main()
