"""code, setting, ideal."""

import unittest

from tests.lines import BEGIN, GUEST, HUGE, SHOP, ask, last


def code(weight, height, age, manner):
    return last(*SHOP, ("guest", weight, height, age, manner, 270), ("code", 0))


def codes(*bodies):
    return [code(*body) for body in bodies]


class CodeTest(unittest.TestCase):
    def test_a_weight_just_at_the_charts(self):
        for weight, answer in ((10, 0), (20, 0), (21, 1), (40, 1), (41, 2), (60, 2), (61, 3), (80, 3), (81, 3), (150, 3)):
            self.assertEqual(code(weight, 210, 30, 1), answer, weight)

    def test_a_height_just_at_the_charts(self):
        for height, answer in ((80, 0), (120, 0), (121, 1), (150, 1), (151, 2), (170, 2), (171, 3), (190, 3), (210, 3)):
            self.assertEqual(code(150, height, 30, 1), answer, height)

    def test_the_lesser_of_the_two(self):
        self.assertEqual(codes((35, 180, 30, 1), (75, 130, 30, 1), (35, 160, 30, 1)), [1, 1, 1])

    def test_how_they_ski(self):
        self.assertEqual(codes((30, 140, 30, 1), (30, 140, 30, 2), (30, 140, 30, 3)), [1, 2, 3])

    def test_the_last_one_at_most(self):
        self.assertEqual(codes((50, 160, 30, 3), (70, 180, 30, 2), (150, 210, 49, 3)), [3, 3, 3])

    def test_under_10_years(self):
        self.assertEqual(codes((30, 140, 2, 1), (30, 140, 9, 1), (30, 140, 10, 1)), [0, 0, 1])

    def test_49_and_50_years(self):
        self.assertEqual(codes((50, 160, 49, 1), (50, 160, 50, 1), (50, 160, 99, 1)), [2, 1, 1])

    def test_0_at_least(self):
        self.assertEqual(codes((15, 100, 9, 1), (15, 100, 50, 1)), [0, 0])

    def test_a_child_who_skis_as_3(self):
        self.assertEqual(codes((15, 100, 9, 3), (15, 100, 9, 2), (30, 140, 9, 3)), [1, 0, 2])

    def test_the_age_takes_1_off_what_the_last_code_bounds(self):
        self.assertEqual(codes((70, 180, 9, 3), (70, 180, 50, 2), (50, 160, 9, 3)), [2, 2, 2])

    def test_a_chart_of_one_code(self):
        one = ("chart", [50], [150], [300], [10])
        for guest in (("guest", 10, 80, 9, 1, 270), ("guest", 150, 210, 30, 3, 270), ("guest", 50, 150, 50, 3, 270)):
            self.assertEqual(last(BEGIN, one, guest, ("code", 0)), 0, guest)

    def test_a_chart_of_16_codes(self):
        rows = [10 + 5 * k for k in range(16)]
        wide = ("chart", rows, [80 + 5 * k for k in range(16)], [300], [0] * 16)
        told = ask(BEGIN, wide, ("guest", 80, 150, 30, 1, 270), ("code", 0), ("becomes", 0, 80, 150, 30, 2), ("code", 0),
                   ("becomes", 0, 85, 155, 50, 3), ("code", 0))
        self.assertEqual(told[3::2], [14, 15, 14])

    def test_whoever_skis_wilder_never_has_a_lesser_code(self):
        for age in (2, 9, 10, 49, 50, 99):
            for weight in (10, 20, 21, 60, 80, 81, 150):
                three = [code(weight, 175, age, manner) for manner in (1, 2, 3)]
                self.assertEqual(three, sorted(three), (age, weight))
                self.assertTrue(0 <= three[0] and three[2] <= 3, (age, weight))

    def test_none_such(self):
        self.assertEqual(ask(*SHOP, ("code", 0), GUEST, ("code", 0), ("code", 1), ("code", HUGE))[2:], [-2, 0, 3, -2, -2])


class SettingTest(unittest.TestCase):
    def setting(self, guest, sole):
        return last(*SHOP, guest, ("boot", 270, sole), ("setting", 0, 0))

    def test_a_sole_just_at_the_charts(self):
        for sole, answer in ((180, 40), (249, 40), (250, 40), (251, 42), (300, 42), (301, 44), (350, 44)):
            self.assertEqual(self.setting(GUEST, sole), answer, sole)

    def test_a_sole_longer_than_all(self):
        self.assertEqual(self.setting(GUEST, 351), -33)
        self.assertEqual(self.setting(GUEST, 400), -33)

    def test_a_setting_of_0_between_others(self):
        guest = ("guest", 60, 170, 30, 1, 270)
        self.assertEqual([self.setting(guest, sole) for sole in (250, 251, 300, 301)], [30, -33, -33, 34])

    def test_a_chart_of_one_column_and_of_8(self):
        one = ("chart", [50], [150], [300], [240])
        boots = [("boot", 270, 300), ("boot", 270, 301), ("setting", 0, 0), ("setting", 0, 1)]
        self.assertEqual(ask(BEGIN, one, GUEST, *boots)[5:], [240, -33])
        eight = ("chart", [50], [150], [293, 294, 295, 296, 297, 298, 299, 300], [1, 2, 3, 4, 5, 6, 7, 8])
        self.assertEqual(ask(BEGIN, eight, GUEST, *boots)[5:], [8, -33])

    def test_boots_need_not_suit(self):
        self.assertEqual(last(*SHOP, GUEST, ("boot", 150, 300), ("setting", 0, 0)), 42)

    def test_none_such(self):
        told = ask(*SHOP, ("setting", 0, 0), GUEST, ("setting", 0, 0), ("boot", 270, 400), ("setting", 1, 0),
                   ("setting", 0, 1), ("setting", HUGE, 0), ("setting", 0, HUGE), ("setting", 0, 0))
        self.assertEqual(told[2:], [-2, 0, -2, 0, -2, -2, -2, -2, -33])


class IdealTest(unittest.TestCase):
    def test_height_less_15_and_more_for_how_they_ski(self):
        for height, manner, answer in ((175, 1, 160), (175, 2, 165), (175, 3, 170), (80, 1, 65), (210, 3, 205)):
            self.assertEqual(last(BEGIN, ("guest", 70, height, 30, manner, 270), ("ideal", 0)), answer)

    def test_none_such(self):
        self.assertEqual(ask(BEGIN, ("ideal", 0), GUEST, ("ideal", 0), ("ideal", 1), ("ideal", HUGE)),
                         [0, -2, 0, 160, -2, -2])


if __name__ == "__main__":
    unittest.main()
