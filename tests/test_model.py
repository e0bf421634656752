"""Whole lines of all calls, answered a second time from sets of days, straight by the document's words."""

import random
import unittest

from tests.lines import BEGIN, BOOT, CHART, GUEST, HEIGHTS, HUGE, NUMBER_OF, SETTINGS, SKI, SOLES, WEIGHTS, ask

NEED_CHART = ("hire", "give", "code", "setting", "skis", "could", "choices", "longest", "swap")

# What the numbers of a call name, in their order; other numbers aside.
NAMED = {
    "becomes": ("guests",), "hire": ("guests",), "cancel": ("hires",), "give": ("hires",), "back": ("hires",),
    "serve": ("skis",), "code": ("guests",), "setting": ("guests", "boots"), "ideal": ("guests",), "boots": ("guests",),
    "skis": ("guests", "boots"), "could": ("guests",), "choices": ("guests",), "longest": ("guests",),
    "swap": ("hires", "skis"), "plan": ("skis",), "bill": ("hires",), "look": ("hires",),
}


def rising(row):
    return all(one < two for one, two in zip(row, row[1:]))


def several(found):
    return [len(found)] + found


class Model:
    """A shop that answers each call by the document's words, with no thought for speed."""

    def __init__(self):
        self.prices = None

    def answer(self, call):
        """What is answered: a number, or a tuple where more are."""
        told = self.numbers(call[0], call[1:])
        return told[0] if len(told) == 1 else tuple(told)

    def numbers(self, name, given):
        if name == "begin":
            return self.begin(*given)
        if self.prices is None:
            return [-11]
        if name in NEED_CHART and self.chart is None:
            return [-6]
        if any(number >= len(getattr(self, "all_" + what)) for what, number in zip(NAMED.get(name, ()), given)):
            return [-2]
        # The model's chart itself goes by the call's name.
        return getattr(self, "put_chart" if name == "chart" else name)(*given)

    def begin(self, first, more, fine, service):
        if first > 1000 or more > 1000 or fine > 1000 or service < 1 or service > 50:
            return [-22]
        self.prices, self.service = (first, more, fine), service
        self.today, self.paid, self.chart = 0, 0, None
        self.all_skis, self.all_boots, self.all_guests, self.all_hires = [], [], [], []
        return [0]

    def put_chart(self, weights, heights, soles, settings):
        if self.all_hires:
            return [-13]
        told = (len(weights) == len(heights) in range(1, 17) and len(soles) in range(1, 9) and max(settings, default=0) <= 240
                and len(settings) == len(weights) * len(soles) and rising(weights) and rising(heights) and rising(soles))
        if not told:
            return [-22]
        self.chart = (weights, heights, soles, settings)
        return [len(weights)]

    def one_more(self, things, most, told, thing):
        if not told:
            return [-22]
        if len(things) == most:
            return [-28]
        things.append(thing)
        return [len(things) - 1]

    def ski(self, length, kind, least, most):
        told = length in range(70, 211) and kind in range(3) and 5 <= least <= most <= 240
        thing = {"length": length, "kind": kind, "range": range(least, most + 1), "all": 0, "since": 0}
        return self.one_more(self.all_skis, 16, told, thing)

    def boot(self, foot, sole):
        told = foot in range(150, 351) and sole in range(180, 401)
        return self.one_more(self.all_boots, 16, told, {"foot": foot, "sole": sole})

    def body_told(self, weight, height, age, manner):
        return weight in range(10, 151) and height in range(80, 211) and age in range(2, 100) and manner in (1, 2, 3)

    def guest(self, weight, height, age, manner, foot):
        told = self.body_told(weight, height, age, manner) and foot in range(150, 351)
        thing = {"weight": weight, "height": height, "age": age, "manner": manner, "foot": foot}
        return self.one_more(self.all_guests, 20, told, thing)

    def becomes(self, g, weight, height, age, manner):
        if not self.body_told(weight, height, age, manner):
            return [-22]
        self.all_guests[g].update(weight=weight, height=height, age=age, manner=manner)
        return [0]

    def code_of(self, g):
        guest = self.all_guests[g]
        last = len(self.chart[0]) - 1
        code = min([k for k in range(last + 1)
                    if self.chart[0][k] >= guest["weight"] or self.chart[1][k] >= guest["height"]] + [last])
        code = min(last, code + {1: 0, 2: 1, 3: 2}[guest["manner"]])
        return max(0, code - 1) if guest["age"] not in range(10, 50) else code

    def setting_of(self, g, b):
        columns = [k for k, sole in enumerate(self.chart[2]) if sole >= self.all_boots[b]["sole"]]
        if not columns:
            return 0
        width = len(self.chart[2])
        row = self.chart[3][self.code_of(g) * width:][:width]
        return row[columns[0]]

    def best_length(self, g):
        return self.all_guests[g]["height"] - {1: 15, 2: 10, 3: 5}[self.all_guests[g]["manner"]]

    def too_long(self, g, b):
        return self.all_boots[b]["foot"] - self.all_guests[g]["foot"]

    def off(self, g, s):
        return abs(self.best_length(g) - self.all_skis[s]["length"])

    def suiting_boots(self, g):
        return [b for b in range(len(self.all_boots)) if self.too_long(g, b) in range(11)]

    def suiting_skis(self, g, b):
        setting = self.setting_of(g, b)
        return [s for s in range(len(self.all_skis))
                if self.off(g, s) in range(11) and setting > 0 and setting in self.all_skis[s]["range"]]

    def days_of(self, hire):
        if hire["how"] in (2, 3):
            return set()
        days = set(range(hire["day"], hire["day"] + hire["days"]))
        return days | set(range(hire["day"], self.today + 1)) if hire["how"] == 1 else days

    def taken(self, what, number):
        return set().union(*[self.days_of(hire) for hire in self.all_hires if hire[what] == number])

    def hire_told(self, day, days, kind):
        return day >= self.today and days in range(1, 31) and day + days - 1 < 400 and kind in range(3)

    def pairs(self, g, day, days, kind):
        asked = set(range(day, day + days))
        return [(s, b) for b in self.suiting_boots(g) if not asked & self.taken("boot", b)
                for s in self.suiting_skis(g, b) if self.all_skis[s]["kind"] == kind and not asked & self.taken("ski", s)]

    def hire(self, g, day, days, kind):
        if not self.hire_told(day, days, kind):
            return [-22]
        if len(self.all_hires) == 40:
            return [-28]
        ranked = sorted((self.too_long(g, b), self.off(g, s), self.all_skis[s]["all"], b, s)
                        for s, b in self.pairs(g, day, days, kind))
        if not ranked:
            return [-33]
        b, s = ranked[0][3:]
        self.all_hires.append({"how": 0, "guest": g, "day": day, "days": days, "ski": s, "boot": b})
        return [len(self.all_hires) - 1, s, b, self.setting_of(g, b)]

    def cancel(self, h):
        if self.all_hires[h]["how"] != 0:
            return [-16]
        self.all_hires[h]["how"] = 3
        return [0]

    def swap(self, h, s):
        hire = self.all_hires[h]
        if hire["how"] != 0:
            return [-16]
        if hire["ski"] == s:
            return [-17]
        if self.days_of(hire) & self.taken("ski", s):
            return [-28]
        kinds = {self.all_skis[s]["kind"], self.all_skis[hire["ski"]]["kind"]}
        if len(kinds) == 2 or s not in self.suiting_skis(hire["guest"], hire["boot"]):
            return [-33]
        had, hire["ski"] = hire["ski"], s
        return [had]

    def is_out(self, what, number):
        return any(hire["how"] == 1 and hire[what] == number for hire in self.all_hires)

    def give(self, h):
        hire = self.all_hires[h]
        ski = self.all_skis[hire["ski"]]
        if hire["how"] != 0:
            return [-16]
        if self.today < hire["day"]:
            return [-13]
        if self.is_out("ski", hire["ski"]) or self.is_out("boot", hire["boot"]):
            return [-17]
        if ski["since"] >= self.service:
            return [-12]
        setting = self.setting_of(hire["guest"], hire["boot"])
        if setting == 0 or setting not in ski["range"]:
            return [-33]
        hire["how"] = 1
        return [setting]

    def owed(self, hire):
        late = len(range(hire["day"] + hire["days"], self.today + 1))
        return [self.prices[0] + sum([self.prices[1]] * (hire["days"] - 1)) + self.prices[2] * late, late]

    def back(self, h):
        hire = self.all_hires[h]
        if hire["how"] != 1:
            return [-16]
        owed = self.owed(hire)
        self.paid += owed[0]
        for count in ("all", "since"):
            self.all_skis[hire["ski"]][count] += len(range(hire["day"], self.today + 1))
        hire["how"] = 2
        return owed

    def serve(self, s):
        if self.is_out("ski", s):
            return [-17]
        since, self.all_skis[s]["since"] = self.all_skis[s]["since"], 0
        return [since]

    def days(self, n):
        if n not in range(1, 61):
            return [-22]
        self.today += n
        return [self.today]

    def code(self, g):
        return [self.code_of(g)]

    def setting(self, g, b):
        return [self.setting_of(g, b) or -33]

    def ideal(self, g):
        return [self.best_length(g)]

    def boots(self, g):
        return several(self.suiting_boots(g))

    def skis(self, g, b):
        return several(self.suiting_skis(g, b))

    def could(self, g, day, days, kind):
        if not self.hire_told(day, days, kind):
            return [-22]
        return [1 if self.pairs(g, day, days, kind) else 0]

    def choices(self, g, day, days, kind):
        if not self.hire_told(day, days, kind):
            return [-22]
        pairs = sorted(self.pairs(g, day, days, kind), key=lambda pair: (pair[1], pair[0]))
        return [len(pairs)] + [number for pair in pairs for number in pair]

    def longest(self, g, day, kind):
        if not self.hire_told(day, 1, kind):
            return [-22]
        return [max(n for n in range(31) if n == 0 or day + n <= 400 and self.pairs(g, day, n, kind))]

    def plan(self, s):
        hires = [h for h, hire in enumerate(self.all_hires) if hire["ski"] == s and hire["how"] in (0, 1)]
        return several(sorted(hires, key=lambda h: self.all_hires[h]["day"]))

    def due(self):
        return several([h for h, hire in enumerate(self.all_hires)
                        if hire["how"] == 1 and hire["day"] + hire["days"] - 1 <= self.today])

    def busy(self, d):
        return [sum(d in self.taken("ski", s) for s in range(len(self.all_skis))),
                sum(d in self.taken("boot", b) for b in range(len(self.all_boots)))]

    def bill(self, h):
        return [-16] if self.all_hires[h]["how"] in (2, 3) else self.owed(self.all_hires[h])

    def price(self, n):
        return [self.prices[0] + self.prices[1] * n - self.prices[1]] if n in range(1, 31) else [-22]

    def worn(self):
        return several([s for s, ski in enumerate(self.all_skis) if ski["since"] >= self.service])

    def look(self, h):
        return [self.all_hires[h][what] for what in ("how", "guest", "day", "days", "ski", "boot")]

    def sums(self):
        hows = [hire["how"] for hire in self.all_hires]
        return [0, self.paid, sum(ski["all"] for ski in self.all_skis), hows.count(2), hows.count(3)]

    def state(self):
        codes = len(self.chart[0]) if self.chart else 0
        return [0, self.today, len(self.all_skis), len(self.all_boots), len(self.all_guests), len(self.all_hires), codes]


class Chance:
    """Calls drawn so that most are answered, many are at an edge, and some are refused."""

    def __init__(self, seed):
        self.draw = random.Random(seed)
        self.model = Model()

    def of(self, *values):
        return self.draw.choice(values)

    def below(self, most):
        return self.draw.randrange(most)

    def body(self):
        return (self.of(20, 21, 40, 60, 61, 70, 80, 81), self.of(150, 151, 170, 171, 175, 180), self.of(9, 10, 30, 49, 50),
                self.of(1, 1, 2, 3))

    def some_day(self):
        today = 0 if self.model.prices is None else self.model.today
        return self.of(today, today, today + self.below(8), today + self.below(40), max(0, today - 1), 369 + self.below(32))

    def some_hire(self):
        return self.below(2 if self.model.prices is None else len(self.model.all_hires) + 1)

    def asked(self):
        return (self.below(4), self.some_day(), self.of(1, 1, 2, 3, 5, 30), self.of(0, 0, 0, 1, 2))

    def rows(self):
        settings = list(SETTINGS)
        settings[self.below(12)] = self.of(0, 5, 240, 240, 241)
        return (WEIGHTS, HEIGHTS, self.of(SOLES, SOLES, [251, 301, 351], [300, 300, 350]), settings)

    def given(self, name):
        """What a call of that name is given."""
        if name in ("hire", "could", "choices"):
            return self.asked()
        if name in ("cancel", "give", "back", "bill", "look"):
            return (self.some_hire(),)
        make = {
            "begin": lambda: (30, 20, 7, self.of(0, 3, 10, 50, 51)),
            "chart": self.rows,
            "ski": lambda: (self.of(140, 150, 155, 160, 165, 170), self.of(0, 0, 1, 2), self.of(5, 22, 31), self.of(30, 42, 240)),
            "boot": lambda: (self.of(259, 260, 265, 270, 280, 281), self.of(250, 251, 300, 301, 350, 351)),
            "guest": lambda: self.body() + (self.of(260, 265, 270, 271),),
            "becomes": lambda: (self.below(4),) + self.body(),
            "serve": lambda: (self.below(7),),
            "days": lambda: (self.of(1, 1, 1, 2, 3),),
            "setting": lambda: (self.below(4), self.below(6)),
            "skis": lambda: (self.below(4), self.below(6)),
            "longest": lambda: self.asked()[:2] + self.asked()[3:],
            "swap": lambda: (self.some_hire(), self.below(7)),
            "plan": lambda: (self.below(7),),
            "busy": lambda: (self.some_day(),),
            "price": lambda: (self.below(33),),
        }
        if name in ("due", "worn", "sums", "state"):
            return ()
        return make[name]() if name in make else (self.below(4),)

    def call(self):
        often = ("hire", "hire", "give", "give", "give", "back", "back", "swap", "could", "longest")
        usual = tuple(name for name in NUMBER_OF if name != "begin")
        name = "begin" if self.below(300) == 0 else self.of(*often, *usual)
        given = self.given(name)
        if given and name != "chart" and self.below(25) == 0:
            place = self.below(len(given))
            given = given[:place] + (self.of(0, HUGE),) + given[place + 1:]
        return (name,) + given

    def line(self):
        """256 calls, and what the model answers to each."""
        first = [BEGIN, CHART, SKI, SKI, ("ski", 165, 0, 10, 43), ("ski", 155, 1, 10, 100), BOOT, BOOT, ("boot", 275, 350),
                 GUEST, GUEST, ("guest", 75, 172, 30, 2, 265)]
        calls = list(self.of(first, first, first, first[:2], first[:1], []))
        told = [self.model.answer(call) for call in calls]
        while len(calls) < 256:
            calls.append(self.call())
            told.append(self.model.answer(calls[-1]))
        return (calls, told)


class ModelTest(unittest.TestCase):
    SEEDS = range(150)

    def test_both_answer_alike(self):
        for seed in self.SEEDS:
            calls, told = Chance(seed).line()
            for k, answer in enumerate(ask(*calls)):
                self.assertEqual(answer, told[k], (seed, k, calls[k]))

    def test_every_answer_and_every_refusal_comes_about(self):
        seen = {}
        for seed in self.SEEDS:
            for call, answer in zip(*Chance(seed).line()):
                refused = isinstance(answer, int) and answer < 0
                seen[call[0], answer if refused else 0] = True
        due = {
            "begin": (-22,), "chart": (-13, -22), "ski": (-22,), "boot": (-22,), "guest": (-22,), "becomes": (-2, -22),
            "hire": (-6, -2, -22, -33), "cancel": (-2, -16), "swap": (-6, -2, -16, -17, -28, -33),
            "give": (-6, -2, -16, -13, -17, -12, -33), "back": (-2, -16), "serve": (-2, -17), "days": (-22,),
            "code": (-6, -2), "setting": (-6, -2, -33), "ideal": (-2,), "boots": (-2,), "skis": (-6, -2),
            "could": (-6, -2, -22), "choices": (-6, -2, -22), "longest": (-6, -2, -22), "plan": (-2,), "due": (), "busy": (),
            "bill": (-2, -16), "price": (-22,), "worn": (), "look": (-2,), "sums": (), "state": (),
        }
        self.assertEqual(sorted(due), sorted(NUMBER_OF))
        for name, refusals in due.items():
            for answer in (0,) + refusals + (() if name == "begin" else (-11,)):
                self.assertIn((name, answer), seen)


if __name__ == "__main__":
    unittest.main()
