"""The interface, and what holds for whole lines of calls."""

import random
import unittest

from skihire.shop import answers
from tests.lines import BEGIN, BOOT, CHART, GIVEN, GUEST, HUGE, NUMBER_OF, SHOP, SKI, ask, flat, told_apart

BOOKED, OUT, ENDED = "booked", "out", "ended"

EVERY_CALL = SHOP + [
    SKI, BOOT, GUEST, ("becomes", 0, 71, 176, 31, 1), ("hire", 0, 0, 2, 0), ("hire", 0, 5, 2, 0), ("cancel", 1),
    ("give", 0), ("days", 3), ("back", 0), ("serve", 0), ("code", 0), ("setting", 0, 0), ("ideal", 0), SKI, ("boots", 0),
    ("skis", 0, 0), ("hire", 0, 4, 2, 0), ("could", 0, 5, 1, 0), ("choices", 0, 6, 1, 0), ("longest", 0, 3, 0),
    ("swap", 2, 0), ("plan", 0), ("due",), ("busy", 4), ("bill", 2), ("price", 3), ("worn",), ("look", 2), ("sums",),
    ("state",),
]

EVERY_ANSWER = [
    0, 4, 0, 0, 0, 0, (0, 0, 0, 42), (1, 0, 0, 42), 0, 42, 3, (64, 2), 4, 3, 42, 161, 1, (1, 0), (2, 0, 1), (2, 1, 0, 42),
    0, (2, 0, 0, 1, 0), 1, 1, (1, 2), 0, (1, 1), (50, 0), 70, 0, (0, 0, 4, 2, 0, 0), (0, 64, 4, 1, 1),
    (0, 3, 2, 1, 1, 3, 4),
]

# Each of these is refused after EVERY_CALL.
REFUSED = [
    ("begin", 0, 0, 0, 0), ("chart", [100], [210], [400], [77]), ("ski", 69, 0, 5, 5), ("boot", 149, 300),
    ("guest", 9, 80, 2, 1, 150), ("becomes", 0, 70, 175, 30, 4), ("becomes", 9, 70, 175, 30, 1), ("hire", 9, 5, 1, 0),
    ("hire", 0, 2, 1, 0), ("hire", 0, 5, 31, 0), ("hire", 0, 5, 1, 1), ("cancel", 0), ("cancel", 9), ("give", 0),
    ("give", 2), ("give", 9), ("back", 1), ("back", 9), ("serve", 9), ("days", 61), ("code", 9), ("setting", 0, 9),
    ("ideal", 9), ("boots", 9), ("skis", 0, 9), ("skis", 9, 0), ("could", 9, 5, 1, 0), ("could", 0, 2, 1, 0),
    ("choices", 9, 5, 1, 0), ("choices", 0, 5, 0, 0), ("longest", 9, 5, 0), ("longest", 0, 400, 0), ("swap", 9, 0),
    ("swap", 2, 9), ("swap", 0, 0), ("swap", 2, 0), ("plan", 9), ("bill", 0), ("bill", 1), ("bill", 9), ("price", 31),
    ("look", 9),
]

# Each of these looks, and changes nothing.
LOOKS = [
    ("code", 0), ("setting", 0, 0), ("ideal", 0), ("boots", 0), ("skis", 0, 0), ("could", 0, 3, 1, 0),
    ("could", 0, 4, 1, 0), ("choices", 0, 3, 1, 0), ("choices", 0, 3, 30, 0), ("longest", 0, 3, 0), ("plan", 0),
    ("plan", 1), ("due",), ("busy", 4), ("busy", HUGE), ("bill", 2), ("price", 30), ("worn",), ("look", 0), ("look", 1),
    ("look", 2), ("sums",), ("state",),
]

LOOKING = tuple({call[0]: True for call in LOOKS})

AFTER = [
    ("hire", 0, 6, 4, 0), ("days", 2), ("give", 2), ("code", 0), ("ideal", 0), ("days", 5), ("due",), ("back", 2),
    ("serve", 0), SKI, BOOT, GUEST, ("setting", 1, 1), ("hire", 1, 10, 1, 0), ("swap", 4, 2), ("worn",), ("sums",),
    ("state",),
]


class InterfaceTest(unittest.TestCase):
    def test_every_call_in_one_line(self):
        self.assertEqual(ask(*EVERY_CALL), EVERY_ANSWER)
        self.assertEqual(sorted({call[0] for call in EVERY_CALL}), sorted(NUMBER_OF))

    def test_as_a_list_of_whole_numbers(self):
        told = []
        for answer in EVERY_ANSWER:
            numbers = [answer] if isinstance(answer, int) else list(answer)
            told += [len(numbers)] + numbers
        self.assertEqual(answers(flat(EVERY_CALL)), told)

    def test_a_list_of_whole_numbers_is_given_back(self):
        told = answers(flat(EVERY_CALL + REFUSED))
        self.assertIs(type(told), list)
        self.assertEqual({type(number) for number in told}, {int})

    def test_what_is_handed_in_is_not_changed(self):
        for calls in (EVERY_CALL, EVERY_CALL + REFUSED + AFTER, REFUSED):
            line = flat(calls)
            before = list(line)
            answers(line)
            self.assertEqual(line, before)

    def test_nothing_is_kept_from_one_time_to_the_next(self):
        line = flat(EVERY_CALL + AFTER)
        first = answers(line)
        answers(flat([BEGIN, CHART, GUEST]))
        self.assertEqual(answers(line), first)
        self.assertEqual(answers(flat([GUEST])), [1, -11])

    def test_what_is_given_back_is_nobody_elses(self):
        line = flat(EVERY_CALL)
        first = answers(line)
        kept = list(first)
        first.clear()
        self.assertEqual(answers(line), kept)

    def test_every_call_with_the_least_and_the_greatest_numbers(self):
        for before in ([], [BEGIN], SHOP, EVERY_CALL):
            for number in range(2, 30):
                for value in (0, HUGE):
                    given = [value] * GIVEN[number]
                    told = told_apart(answers(flat(before) + [number] + given))
                    self.assertEqual(len(told), len(before) + 1, (number, value))


class LongLinesTest(unittest.TestCase):
    def test_rows_of_200_among_other_calls(self):
        wide = ("chart", list(range(200)), list(range(200)), list(range(200)), list(range(200)))
        calls = [BEGIN] + [wide] * 37 + [("days", 1)] * 218
        self.assertEqual((len(calls), len(flat(calls))), (256, 30226))
        self.assertEqual(ask(*calls), [0] + [-22] * 37 + list(range(1, 219)))

    def test_256_charts_of_rows_of_200_as_far_as_they_go(self):
        row = list(range(200))
        calls = []
        for count in range(148):
            rows = [[], [], [], []]
            rows[count % 4] = row
            calls.append(("chart", *rows))
        calls += [("chart", [], [], [], [])] * 107
        self.assertEqual((len(calls) + 1, len(flat([BEGIN] + calls))), (256, 30880))
        self.assertEqual(ask(BEGIN, *calls), [0] + [-22] * 255)
        self.assertEqual(ask(*calls, ("chart", [], [], [], [])), [-11] * 256)

    def test_255_charts_that_take_one_anothers_place(self):
        ten = list(range(10, 110, 10))
        charts = [("chart", ten, ten, [200, 300, 400, 500, 600, 700, 800, 900], [k % 241] * 80) for k in range(255)]
        self.assertLessEqual(len(flat([BEGIN] + charts)), 31000)
        self.assertEqual(ask(BEGIN, *charts), [0] + [10] * 255)
        self.assertEqual(ask(BEGIN, BOOT, GUEST, *charts[:252], ("setting", 0, 0))[-2:], [10, 10])

    def test_150_widest_charts(self):
        rising = list(range(100, 116))
        wide = ("chart", rising, rising, list(range(8)), [240] * 128)
        calls = [BEGIN] + [wide] * 150 + [("state",)] * 105
        self.assertEqual((len(calls), len(flat(calls))), (256, 5 + 150 * 173 + 105))
        self.assertEqual(ask(*calls), [0] + [16] * 150 + [(0, 0, 0, 0, 0, 0, 16)] * 105)

    def test_256_calls_of_each_kind(self):
        for name, number in NUMBER_OF.items():
            if name != "chart":
                for value in (0, 1, HUGE):
                    line = flat(EVERY_CALL) + [number, *[value] * GIVEN[number]] * (256 - len(EVERY_CALL))
                    before = list(line)
                    self.assertEqual(len(told_apart(answers(line))), 256, name)
                    self.assertEqual(line, before, name)

    def test_as_many_choices_as_there_can_be(self):
        calls = SHOP + [SKI] * 16 + [BOOT] * 16 + [GUEST] + [("choices", 0, 0, 30, 0)] * 110
        calls += [("longest", 0, 0, 0)] * (256 - len(calls))
        told = ask(*calls)
        self.assertEqual([len(answer) for answer in told[35:145]], [513] * 110)
        self.assertEqual(told[145:], [30] * 111)


class RefusalTest(unittest.TestCase):
    def test_each_is_refused_with_its_number_alone(self):
        for call in REFUSED:
            told = answers(flat(EVERY_CALL + [call]))
            self.assertEqual(told[-2], 1, call)
            self.assertLess(told[-1], 0, call)

    def test_a_refused_call_leaves_the_object_as_it_was(self):
        plain = ask(*EVERY_CALL, *AFTER)
        for call in REFUSED:
            told = ask(*EVERY_CALL, call, *AFTER)
            self.assertEqual(told[len(EVERY_CALL) + 1:], plain[len(EVERY_CALL):], call)

    def test_looking_leaves_the_object_as_it_was(self):
        plain = ask(*EVERY_CALL, *AFTER)
        for call in LOOKS:
            told = ask(*EVERY_CALL, call, *AFTER)
            self.assertEqual(told[len(EVERY_CALL) + 1:], plain[len(EVERY_CALL):], call)

    def test_all_looks_the_same_before_and_after_each_look_and_each_refused_call(self):
        many = len(LOOKS)
        for call in LOOKS + REFUSED:
            told = ask(*EVERY_CALL, *LOOKS, call, *LOOKS, call)
            self.assertEqual(told[-many - 1:-1], told[-2 * many - 2:-many - 2], call)
            self.assertEqual(told[-1], told[-many - 2], call)

    def test_it_looks_the_same_whatever_is_out_late_or_worn(self):
        out = [("days", 1), ("give", 2), ("hire", 0, 9, 1, 0), ("days", 9)]
        for before in (out, out + [("back", 2)]):
            for call in LOOKS + REFUSED:
                told = ask(*EVERY_CALL, *before, *LOOKS, call, *LOOKS)
                if isinstance(told[-len(LOOKS) - 1], int) and told[-len(LOOKS) - 1] < 0 or call in LOOKS:
                    self.assertEqual(told[-len(LOOKS):], told[-2 * len(LOOKS) - 1:-len(LOOKS) - 1], call)


def some_call(chance):
    """A call that is mostly as told, at times not."""
    edge = chance.random() < 0.03
    few = chance.randrange(3)
    make = {
        "ski": lambda: ("ski", chance.choice((155, 160, 165)), chance.randrange(2), chance.choice((5, 20, 30)), 45),
        "boot": lambda: ("boot", chance.choice((265, 270, 275)), chance.choice((250, 300, 350, 351))),
        "guest": lambda: ("guest", chance.choice((40, 60, 70)), 175, chance.choice((9, 30, 50)), 1, chance.choice((265, 270))),
        "becomes": lambda: ("becomes", few, chance.choice((39, 61, 75)), 175, chance.choice((9, 30)), chance.randrange(1, 4)),
        "hire": lambda: ("hire", few, chance.randrange(25), chance.randrange(1, 5), chance.randrange(2)),
        "cancel": lambda: ("cancel", chance.randrange(12)),
        "give": lambda: ("give", chance.randrange(12)),
        "back": lambda: ("back", chance.randrange(12)),
        "serve": lambda: ("serve", chance.randrange(5)),
        "days": lambda: ("days", chance.choice((1, 1, 2))),
        "code": lambda: ("code", few),
        "setting": lambda: ("setting", few, few),
        "ideal": lambda: ("ideal", few),
    }
    name = chance.choice(("hire", "hire", "hire", "give", "give", "back", "back", "days") + tuple(make))
    call = make[name]()
    if edge:
        call = call[:-1] + (chance.choice((0, HUGE)),)
    return call


def some_line(seed):
    chance = random.Random(seed)
    things = [SKI, SKI, ("ski", 155, 1, 10, 100), BOOT, BOOT, ("boot", 275, 350), GUEST, ("guest", 60, 170, 50, 2, 270)]
    return SHOP + things + [some_call(chance) for count in range(200)]


class Books:
    """What a line's calls and answers say of its hires and skis."""

    def __init__(self):
        self.today = 0
        self.skis = []
        self.hires = []

    def days_of(self, hire):
        """All days on which a hire takes its things."""
        if hire["how"] == ENDED:
            return set()
        days = set(range(hire["day"], hire["day"] + hire["days"]))
        if hire["how"] == OUT:
            days |= set(range(hire["day"], self.today + 1))
        return days


class WhatHoldsTest(unittest.TestCase):
    SEEDS = range(60)

    def follow(self, books, call, told):
        """Check one call that isn't refused against the books, and enter it."""
        name = call[0]
        if name == "ski":
            books.skis.append({"least": call[3], "most": call[4], "kind": call[2], "since": 0})
        elif name == "days":
            books.today = told
        elif name == "hire":
            self.follow_hire(books, call, told)
        elif name == "cancel":
            self.assertEqual(books.hires[call[1]]["how"], BOOKED)
            books.hires[call[1]]["how"] = ENDED
        elif name == "give":
            self.follow_give(books, books.hires[call[1]], told)
        elif name == "back":
            self.follow_back(books, books.hires[call[1]], told)
        elif name == "serve":
            self.assertEqual(told, books.skis[call[1]]["since"])
            books.skis[call[1]]["since"] = 0

    def follow_hire(self, books, call, told):
        hire = {"how": BOOKED, "day": call[2], "days": call[3], "ski": told[1], "boot": told[2]}
        self.assertEqual(told[0], len(books.hires))
        self.assertEqual(books.skis[hire["ski"]]["kind"], call[4])
        self.assertTrue(books.skis[hire["ski"]]["least"] <= told[3] <= books.skis[hire["ski"]]["most"])
        for other in books.hires:
            if other["ski"] == hire["ski"] or other["boot"] == hire["boot"]:
                self.assertEqual(books.days_of(other) & books.days_of(hire), set())
        books.hires.append(hire)

    def follow_give(self, books, hire, told):
        ski = books.skis[hire["ski"]]
        self.assertEqual(hire["how"], BOOKED)
        self.assertTrue(ski["least"] <= told <= ski["most"])
        self.assertLess(ski["since"], 5)
        for other in books.hires:
            if other["how"] == OUT:
                self.assertNotEqual(other["ski"], hire["ski"])
                self.assertNotEqual(other["boot"], hire["boot"])
        hire["how"] = OUT

    def follow_back(self, books, hire, told):
        late = max(0, books.today - (hire["day"] + hire["days"] - 1))
        self.assertEqual(hire["how"], OUT)
        self.assertEqual(told, (30 + 20 * (hire["days"] - 1) + 7 * late, late))
        books.skis[hire["ski"]]["since"] += books.today - hire["day"] + 1
        hire["how"] = ENDED

    def test_nothing_clashes_and_all_is_paid(self):
        seen = {}
        for seed in self.SEEDS:
            calls = some_line(seed)
            books = Books()
            for call, told in zip(calls, ask(*calls)):
                refused = isinstance(told, int) and told < 0
                seen[call[0], told if refused else 0] = True
                if not refused:
                    with self.subTest(seed=seed, call=call):
                        self.follow(books, call, told)
        for due in [("hire", 0), ("hire", -33), ("give", 0), ("give", -17), ("give", -12), ("give", -33), ("back", 0),
                    ("serve", 0), ("serve", -17), ("cancel", 0)]:
            self.assertIn(due, seen)

    def test_without_what_is_refused_or_only_looks_all_else_is_answered_alike(self):
        for seed in self.SEEDS:
            calls = some_line(seed)
            told = ask(*calls)
            kept = [k for k in range(len(calls)) if calls[k][0] not in LOOKING
                    and not (isinstance(told[k], int) and told[k] < 0)]
            self.assertEqual(ask(*[calls[k] for k in kept]), [told[k] for k in kept], seed)


if __name__ == "__main__":
    unittest.main()
