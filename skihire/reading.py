"""The numbers of the calls, and how a list of calls is read."""

BEGIN = 0
CHART = 1
SKI = 2
BOOT = 3
GUEST = 4
BECOMES = 5
HIRE = 6
CANCEL = 7
GIVE = 8
BACK = 9
SERVE = 10
DAYS = 11
CODE = 12
SETTING = 13
IDEAL = 14
BOOTS = 15
SKIS = 16
COULD = 17
CHOICES = 18
LONGEST = 19
SWAP = 20
PLAN = 21
DUE = 22
BUSY = 23
BILL = 24
PRICE = 25
WORN = 26
LOOK = 27
SUMS = 28
STATE = 29

CHART_ROWS = 4

# By the calls' numbers, 0 to 29: how many whole numbers each call has, the numbers of its rows aside.
NUMBERS_GIVEN = (
    4, 0, 4, 2, 5, 5, 4, 1, 1, 1,
    1, 1, 1, 2, 1, 1, 2, 4, 4, 3,
    2, 1, 0, 1, 1, 1, 0, 1, 0, 0,
)


def needs_chart(number):
    """Whether a call is refused where there's no chart."""
    return number in (HIRE, GIVE, CODE, SETTING, SKIS, COULD, CHOICES, LONGEST, SWAP)


def read_rows(calls, at, many):
    """The rows that begin there, and the place behind them."""
    rows = []
    for row in range(many):
        end = at + 1 + calls[at]
        rows.append(calls[at + 1:end])
        at = end
    return (rows, at)


def read_calls(calls):
    """The calls one by one: the call's number, and what is given with it, whole numbers or rows."""
    found = []
    at = 0
    while at < len(calls):
        number = calls[at]
        if number == CHART:
            read = read_rows(calls, at + 1, CHART_ROWS)
            found.append((number, read[0]))
            at = read[1]
        else:
            end = at + 1 + NUMBERS_GIVEN[number]
            found.append((number, calls[at + 1:end]))
            at = end
    return found
