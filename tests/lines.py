"""Lines of calls written by the calls' names, and a shop that most tests begin with."""

from skihire.shop import answers

NUMBER_OF = {
    "begin": 0, "chart": 1, "ski": 2, "boot": 3, "guest": 4, "becomes": 5, "hire": 6, "cancel": 7,
    "give": 8, "back": 9, "serve": 10, "days": 11, "code": 12, "setting": 13, "ideal": 14, "boots": 15,
    "skis": 16, "could": 17, "choices": 18, "longest": 19, "swap": 20, "plan": 21, "due": 22, "busy": 23,
    "bill": 24, "price": 25, "worn": 26, "look": 27, "sums": 28, "state": 29,
}

# How many whole numbers each call has, the chart aside.
GIVEN = {
    0: 4, 2: 4, 3: 2, 4: 5, 5: 5, 6: 4, 7: 1, 8: 1, 9: 1, 10: 1, 11: 1, 12: 1, 13: 2, 14: 1, 15: 1, 16: 2,
    17: 4, 18: 4, 19: 3, 20: 2, 21: 1, 22: 0, 23: 1, 24: 1, 25: 1, 26: 0, 27: 1, 28: 0, 29: 0,
}

HUGE = 4294967295

FIRST, MORE, FINE, SERVICE = 30, 20, 7, 5

BEGIN = ("begin", FIRST, MORE, FINE, SERVICE)

WEIGHTS = [20, 40, 60, 80]
HEIGHTS = [120, 150, 170, 190]
SOLES = [250, 300, 350]
SETTINGS = [
    10, 12, 14,
    20, 22, 24,
    30, 0, 34,
    40, 42, 44,
]
CHART = ("chart", WEIGHTS, HEIGHTS, SOLES, SETTINGS)

# Code 3, best length 160, a setting of 42 in BOOT.
GUEST = ("guest", 70, 175, 30, 1, 270)
SKI = ("ski", 160, 0, 10, 100)
BOOT = ("boot", 270, 300)

SHOP = [BEGIN, CHART]


def flat(calls):
    """The list of whole numbers that stands for these calls."""
    line = []
    for call in calls:
        line.append(NUMBER_OF[call[0]])
        for given in call[1:]:
            if isinstance(given, list):
                line.append(len(given))
                line.extend(given)
            else:
                line.append(given)
    return line


def told_apart(numbers):
    """What was answered to each call: a number, or a tuple where more are answered."""
    told = []
    at = 0
    while at < len(numbers):
        end = at + 1 + numbers[at]
        if end > len(numbers) or numbers[at] < 1:
            raise AssertionError("counts don't go together: %r" % (numbers,))
        answer = tuple(numbers[at + 1:end])
        told.append(answer[0] if len(answer) == 1 else answer)
        at = end
    return told


def ask(*calls):
    """The answers to all these calls on one new object."""
    told = told_apart(answers(flat(calls)))
    if len(told) != len(calls):
        raise AssertionError("%d calls, %d answers" % (len(calls), len(told)))
    return told


def last(*calls):
    """The answer to the last one of these calls."""
    return ask(*calls)[-1]
