"""The calls that only look at hires, days, prices and wear."""

from skihire.booking import DAYS_AT_MOST
from skihire.pricing import hire_costs, price_of
from skihire.records import BOOKED, CALLED_OFF, OUT, RETURNED
from skihire.refusals import NONE_SUCH, NOT_SO, OUT_OF_RANGE
from skihire.taking import boot_taken, days_late, last_day, ski_taken


def hires_being(shop, state):
    """The numbers of the hires that are so, rising."""
    return [h for h in range(len(shop.hires)) if shop.hires[h].state == state]


def tell_plan(shop, s):
    """The hires that are yet to have these skis, or have them."""
    if s >= len(shop.skis):
        return [NONE_SUCH]
    found = []
    for h in hires_being(shop, BOOKED) + hires_being(shop, OUT):
        if shop.hires[h].ski == s:
            found.append((shop.hires[h].day, h))
    return [len(found)] + [entry[1] for entry in sorted(found)]


def tell_due(shop):
    """The hires that are to come back today, or were before."""
    found = [h for h in hires_being(shop, OUT) if last_day(shop.hires[h]) <= shop.today]
    return [len(found)] + found


def tell_busy(shop, d):
    """How many skis are taken on a day, and how many boots."""
    # Skis or boots that two hires have, as the one before is late, are taken once.
    skis = [s for s in range(len(shop.skis)) if ski_taken(shop, s, d, d)]
    boots = [b for b in range(len(shop.boots)) if boot_taken(shop, b, d, d)]
    return [len(skis), len(boots)]


def tell_bill(shop, h):
    """What a hire would pay if it came back today, be it out or only booked."""
    if h >= len(shop.hires):
        return [NONE_SUCH]
    hire = shop.hires[h]
    if hire.state == RETURNED or hire.state == CALLED_OFF:
        return [NOT_SO]
    return [hire_costs(shop, hire), days_late(hire, shop.today)]


def tell_price(shop, n):
    """What n days cost."""
    if not 1 <= n <= DAYS_AT_MOST:
        return [OUT_OF_RANGE]
    return [price_of(shop, n)]


def tell_worn(shop):
    """The skis that are to be served before they're given out again."""
    found = [s for s in range(len(shop.skis)) if shop.skis[s].used_since >= shop.service]
    return [len(found)] + found


def tell_look(shop, h):
    """How a hire is, and all that is known of it."""
    if h >= len(shop.hires):
        return [NONE_SUCH]
    hire = shop.hires[h]
    return [hire.state, hire.guest, hire.day, hire.days, hire.ski, hire.boot]


def tell_sums(shop):
    """What was paid, how much was used, how many hires are back and called off."""
    used = sum([ski.used for ski in shop.skis])
    return [0, shop.paid, used, len(hires_being(shop, RETURNED)), len(hires_being(shop, CALLED_OFF))]


def tell_state(shop):
    """Today, and how much there is of everything."""
    codes = 0
    if shop.chart is not None:
        codes = len(shop.chart.weights)
    return [0, shop.today, len(shop.skis), len(shop.boots), len(shop.guests), len(shop.hires), codes]
