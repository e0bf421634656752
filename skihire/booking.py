"""The calls that book and call off: hire, cancel."""

from skihire.fitting import binding_setting
from skihire.pairs import best_pair, pairs_to_hire
from skihire.records import BOOKED, CALLED_OFF, Hire
from skihire.refusals import CANNOT_BE, NONE_SUCH, NOT_SO, OUT_OF_RANGE, TOO_MANY

HIRES_AT_MOST = 40
DAYS_AT_MOST = 30
NO_DAYS_FROM = 400
GREATEST_KIND = 2


def hire_as_told(shop, day, days, kind):
    """Whether somebody may ask for such days and such a kind."""
    if day < shop.today or not 1 <= days <= DAYS_AT_MOST:
        return False
    return day + days <= NO_DAYS_FROM and kind <= GREATEST_KIND


def book_hire(shop, g, day, days, kind):
    """Book the best pair."""
    if g >= len(shop.guests):
        return [NONE_SUCH]
    if not hire_as_told(shop, day, days, kind):
        return [OUT_OF_RANGE]
    if len(shop.hires) == HIRES_AT_MOST:
        return [TOO_MANY]
    guest = shop.guests[g]
    pairs = pairs_to_hire(shop, guest, day, day + days - 1, kind)
    if len(pairs) == 0:
        return [CANNOT_BE]
    pair = best_pair(shop, guest, pairs)
    shop.hires.append(Hire(g, day, days, pair[0], pair[1]))
    setting = binding_setting(shop.chart, guest, shop.boots[pair[1]])
    return [len(shop.hires) - 1, pair[0], pair[1], setting]


def cancel_hire(shop, h):
    """Call a hire off."""
    if h >= len(shop.hires):
        return [NONE_SUCH]
    hire = shop.hires[h]
    if hire.state != BOOKED:
        return [NOT_SO]
    hire.state = CALLED_OFF
    return [0]
