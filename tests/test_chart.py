"""chart."""

import unittest

from skihire.shop import answers
from tests.lines import BEGIN, BOOT, CHART, GUEST, HEIGHTS, SETTINGS, SHOP, SKI, SOLES, WEIGHTS, ask, last


def rising(many, start=1):
    return list(range(start, start + many))


def chart(codes, columns):
    return ("chart", rising(codes), rising(codes), rising(columns), [0] * (codes * columns))


class ChartTest(unittest.TestCase):
    def refused(self, *rows):
        self.assertEqual(last(BEGIN, ("chart",) + rows), -22, rows)

    def test_it_answers_how_many_codes(self):
        self.assertEqual(ask(BEGIN, CHART), [0, 4])

    def test_as_a_list_of_whole_numbers(self):
        line = [0, 1, 1, 1, 1, 1, 2, 50, 60, 2, 150, 160, 1, 300, 2, 10, 240]
        self.assertEqual(answers(line), [1, 0, 1, 2])

    def test_fewest_and_most_codes_and_columns(self):
        for codes in (1, 2, 15, 16):
            for columns in (1, 2, 7, 8):
                self.assertEqual(last(BEGIN, chart(codes, columns)), codes, (codes, columns))

    def test_too_many_or_no_codes_and_columns(self):
        for codes, columns in ((0, 0), (0, 1), (1, 0), (17, 1), (17, 8), (1, 9), (16, 9), (200, 1), (1, 200), (0, 8)):
            self.assertEqual(last(BEGIN, chart(codes, columns)), -22, (codes, columns))

    def test_rows_that_do_not_go_together(self):
        self.refused(WEIGHTS[:3], HEIGHTS, SOLES, SETTINGS)
        self.refused(WEIGHTS, HEIGHTS[:3], SOLES, SETTINGS)
        self.refused(WEIGHTS[:3], HEIGHTS, SOLES, SETTINGS[:9])
        self.refused(WEIGHTS, HEIGHTS[:3], SOLES, SETTINGS[:9])
        self.refused(WEIGHTS, HEIGHTS + [200], SOLES, SETTINGS)
        self.refused(WEIGHTS, HEIGHTS, SOLES[:2], SETTINGS)
        self.refused(WEIGHTS, HEIGHTS, SOLES, SETTINGS[:11])
        self.refused(WEIGHTS, HEIGHTS, SOLES, SETTINGS + [10])
        self.refused(WEIGHTS, HEIGHTS, SOLES, [10] * 200)

    def test_an_empty_row(self):
        self.refused([], HEIGHTS, SOLES, SETTINGS)
        self.refused(WEIGHTS, [], SOLES, SETTINGS)
        self.refused(WEIGHTS, HEIGHTS, [], SETTINGS)
        self.refused(WEIGHTS, HEIGHTS, SOLES, [])
        self.refused(WEIGHTS, HEIGHTS, [], [])
        self.refused([], [], [], [])

    def test_rows_that_do_not_rise(self):
        for row in ([20, 40, 40, 80], [20, 20, 60, 80], [20, 40, 80, 80], [20, 40, 39, 80], [80, 60, 40, 20]):
            self.refused(row, HEIGHTS, SOLES, SETTINGS)
            self.refused(WEIGHTS, row, SOLES, SETTINGS)
        for row in ([250, 250, 350], [250, 300, 300], [250, 300, 299]):
            self.refused(WEIGHTS, HEIGHTS, row, SETTINGS)

    def test_rows_rise_by_1_and_reach_from_0_to_65535(self):
        self.assertEqual(last(BEGIN, ("chart", [0, 1], [0, 65535], [65534, 65535], [0, 240, 240, 0])), 2)

    def test_settings_need_not_rise(self):
        self.assertEqual(last(BEGIN, ("chart", [1, 2], [1, 2], [1, 2], [240, 5, 5, 0])), 2)

    def test_the_greatest_setting(self):
        for place in range(12):
            for setting, answer in ((240, 4), (241, -22), (65535, -22), (0, 4)):
                settings = list(SETTINGS)
                settings[place] = setting
                self.assertEqual(last(BEGIN, ("chart", WEIGHTS, HEIGHTS, SOLES, settings)), answer, (place, setting))

    def test_settings_stand_by_codes_then_columns(self):
        guests = [("guest", 20, 210, 30, 1, 270), ("guest", 40, 210, 30, 1, 270), ("guest", 60, 210, 30, 1, 270),
                  ("guest", 80, 210, 30, 1, 270)]
        boots = [("boot", 270, 250), ("boot", 270, 300), ("boot", 270, 350)]
        asked = [("setting", g, b) for g in range(4) for b in range(3)]
        told = ask(BEGIN, CHART, *guests, *boots, *asked)
        self.assertEqual(told[9:], [10, 12, 14, 20, 22, 24, 30, -33, 34, 40, 42, 44])

    def test_a_later_chart_takes_its_place(self):
        other = ("chart", [100], [210], [400], [77])
        told = ask(*SHOP, GUEST, BOOT, ("code", 0), ("setting", 0, 0), other, ("code", 0), ("setting", 0, 0))
        self.assertEqual(told[4:], [3, 42, 1, 0, 77])

    def test_a_refused_one_leaves_the_chart(self):
        bad = ("chart", [100], [210], [400], [241])
        told = ask(*SHOP, GUEST, BOOT, bad, ("code", 0), ("setting", 0, 0))
        self.assertEqual(told[4:], [-22, 3, 42])


class ChartWithHiresTest(unittest.TestCase):
    BOOKED = SHOP + [SKI, BOOT, GUEST, ("hire", 0, 0, 1, 0)]
    OTHER = ("chart", [100], [210], [400], [77])

    def test_not_while_there_are_hires_however_they_are(self):
        for calls in ([], [("cancel", 0)], [("give", 0)], [("give", 0), ("back", 0)]):
            told = ask(*self.BOOKED, *calls, self.OTHER, ("code", 0), ("setting", 0, 0))
            self.assertEqual(told[-3:], [-13, 3, 42], calls)

    def test_hires_come_ahead_of_the_range(self):
        self.assertEqual(last(*self.BOOKED, ("chart", [], [], [], [])), -13)

    def test_a_refused_hire_is_none(self):
        self.assertEqual(last(*SHOP, GUEST, ("hire", 0, 0, 1, 0), self.OTHER), 1)


if __name__ == "__main__":
    unittest.main()
