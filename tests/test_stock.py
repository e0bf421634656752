"""ski, boot, guest, becomes."""

import unittest

from tests.lines import BEGIN, BOOT, CHART, GUEST, HUGE, SHOP, SKI, ask, last


class Ranges(unittest.TestCase):
    """Each argument at its ends, the others as they stand."""

    def inside(self, before, call, place, values, answer):
        for value in values:
            asked = call[:place] + (value,) + call[place + 1:]
            self.assertEqual(last(*before, asked), answer, asked)

    def outside(self, before, call, place, values):
        self.inside(before, call, place, values, -22)


class SkiTest(Ranges):
    def test_they_are_numbered_from_0(self):
        self.assertEqual(ask(BEGIN, SKI, ("ski", 70, 2, 5, 5), SKI), [0, 0, 1, 2])

    def test_ranges(self):
        self.inside([BEGIN], SKI, 1, (70, 71, 209, 210), 0)
        self.outside([BEGIN], SKI, 1, (0, 69, 211, HUGE))
        self.inside([BEGIN], SKI, 2, (0, 1, 2), 0)
        self.outside([BEGIN], SKI, 2, (3, HUGE))
        self.inside([BEGIN], SKI, 3, (5, 6, 99, 100), 0)
        self.outside([BEGIN], SKI, 3, (0, 4, 101, HUGE))
        self.inside([BEGIN], SKI, 4, (10, 11, 239, 240), 0)
        self.outside([BEGIN], SKI, 4, (0, 9, 241, HUGE))

    def test_ends_of_the_settings(self):
        self.assertEqual(ask(BEGIN, ("ski", 100, 0, 5, 5), ("ski", 100, 0, 240, 240), ("ski", 100, 0, 4, 4),
                             ("ski", 100, 0, 241, 241), ("ski", 100, 0, 5, 4)), [0, 0, 1, -22, -22, -22])

    def test_16_at_most(self):
        told = ask(BEGIN, *[SKI] * 17, ("ski", 69, 0, 10, 100), ("serve", 15), ("serve", 16))
        self.assertEqual(told, [0] + list(range(16)) + [-28, -22, 0, -2])

    def test_a_refused_one_is_not_there(self):
        self.assertEqual(ask(BEGIN, ("ski", 69, 0, 10, 100), ("serve", 0), SKI, ("serve", 0)), [0, -22, -2, 0, 0])


class BootTest(Ranges):
    def test_they_are_numbered_from_0(self):
        self.assertEqual(ask(BEGIN, BOOT, ("boot", 150, 180), BOOT), [0, 0, 1, 2])

    def test_ranges(self):
        self.inside([BEGIN], BOOT, 1, (150, 151, 349, 350), 0)
        self.outside([BEGIN], BOOT, 1, (0, 149, 351, HUGE))
        self.inside([BEGIN], BOOT, 2, (180, 181, 399, 400), 0)
        self.outside([BEGIN], BOOT, 2, (0, 179, 401, HUGE))

    def test_16_at_most(self):
        told = ask(BEGIN, CHART, GUEST, *[BOOT] * 17, ("boot", 149, 300), ("setting", 0, 15), ("setting", 0, 16))
        self.assertEqual(told[3:], list(range(16)) + [-28, -22, 42, -2])

    def test_a_refused_one_is_not_there(self):
        told = ask(BEGIN, CHART, GUEST, ("boot", 270, 179), ("setting", 0, 0), BOOT, ("setting", 0, 0))
        self.assertEqual(told[3:], [-22, -2, 0, 42])


class GuestTest(Ranges):
    def test_they_are_numbered_from_0(self):
        self.assertEqual(ask(BEGIN, GUEST, ("guest", 10, 80, 2, 1, 150), GUEST), [0, 0, 1, 2])

    def test_ranges(self):
        self.inside([BEGIN], GUEST, 1, (10, 11, 149, 150), 0)
        self.outside([BEGIN], GUEST, 1, (0, 9, 151, HUGE))
        self.inside([BEGIN], GUEST, 2, (80, 81, 209, 210), 0)
        self.outside([BEGIN], GUEST, 2, (0, 79, 211, HUGE))
        self.inside([BEGIN], GUEST, 3, (2, 3, 98, 99), 0)
        self.outside([BEGIN], GUEST, 3, (0, 1, 100, HUGE))
        self.inside([BEGIN], GUEST, 4, (1, 2, 3), 0)
        self.outside([BEGIN], GUEST, 4, (0, 4, HUGE))
        self.inside([BEGIN], GUEST, 5, (150, 151, 349, 350), 0)
        self.outside([BEGIN], GUEST, 5, (0, 149, 351, HUGE))

    def test_20_at_most(self):
        told = ask(BEGIN, *[GUEST] * 21, ("guest", 9, 175, 30, 1, 270), ("ideal", 19), ("ideal", 20))
        self.assertEqual(told, [0] + list(range(20)) + [-28, -22, 160, -2])

    def test_a_refused_one_is_not_there(self):
        told = ask(BEGIN, ("guest", 70, 175, 30, 1, 351), ("ideal", 0), GUEST, ("ideal", 0))
        self.assertEqual(told, [0, -22, -2, 0, 160])


class BecomesTest(Ranges):
    BEFORE = [BEGIN, GUEST]
    CALL = ("becomes", 0, 70, 175, 30, 1)

    def test_ranges(self):
        self.inside(self.BEFORE, self.CALL, 2, (10, 11, 149, 150), 0)
        self.outside(self.BEFORE, self.CALL, 2, (0, 9, 151, HUGE))
        self.inside(self.BEFORE, self.CALL, 3, (80, 81, 209, 210), 0)
        self.outside(self.BEFORE, self.CALL, 3, (0, 79, 211, HUGE))
        self.inside(self.BEFORE, self.CALL, 4, (2, 3, 98, 99), 0)
        self.outside(self.BEFORE, self.CALL, 4, (0, 1, 100, HUGE))
        self.inside(self.BEFORE, self.CALL, 5, (1, 2, 3), 0)
        self.outside(self.BEFORE, self.CALL, 5, (0, 4, HUGE))

    def test_none_such_comes_ahead_of_the_range(self):
        self.assertEqual(ask(BEGIN, ("becomes", 0, 0, 0, 0, 0), GUEST, ("becomes", 1, 70, 175, 30, 1),
                             ("becomes", HUGE, 70, 175, 30, 1), ("becomes", 0, 0, 175, 30, 1)),
                         [0, -2, 0, -2, -2, -22])

    def test_the_guest_is_so_now(self):
        told = ask(*SHOP, GUEST, GUEST, ("becomes", 1, 45, 140, 30, 2), ("ideal", 1), ("code", 1), ("ideal", 0),
                   ("code", 0), ("becomes", 1, 45, 140, 60, 2), ("code", 1))
        self.assertEqual(told[4:], [0, 130, 2, 160, 3, 0, 1])

    def test_the_foot_stays(self):
        told = ask(*SHOP, SKI, ("boot", 281, 300), ("boot", 280, 300), GUEST, ("becomes", 0, 71, 175, 30, 1),
                   ("hire", 0, 0, 1, 0))
        self.assertEqual(told[-1], (0, 0, 1, 42))

    def test_a_refused_one_leaves_the_guest(self):
        told = ask(*SHOP, GUEST, ("becomes", 0, 20, 100, 5, 4), ("ideal", 0), ("code", 0))
        self.assertEqual(told[3:], [-22, 160, 3])


if __name__ == "__main__":
    unittest.main()
