"""The calls that only look at what suits a guest, and what they could hire."""

from skihire.booking import DAYS_AT_MOST, NO_DAYS_FROM, hire_as_told
from skihire.fitting import NO_SETTING, best_length, binding_setting, boots_suit, guest_code, skis_suit
from skihire.pairs import pairs_to_hire
from skihire.refusals import CANNOT_BE, NONE_SUCH, OUT_OF_RANGE


def tell_code(shop, g):
    """A guest's code."""
    if g >= len(shop.guests):
        return [NONE_SUCH]
    return [guest_code(shop.chart, shop.guests[g])]


def tell_setting(shop, g, b):
    """The setting for a guest and boots, be these the right ones or not."""
    if g >= len(shop.guests) or b >= len(shop.boots):
        return [NONE_SUCH]
    setting = binding_setting(shop.chart, shop.guests[g], shop.boots[b])
    if setting == NO_SETTING:
        return [CANNOT_BE]
    return [setting]


def tell_ideal(shop, g):
    """A guest's best length."""
    if g >= len(shop.guests):
        return [NONE_SUCH]
    return [best_length(shop.guests[g])]


def tell_boots(shop, g):
    """The boots that suit a guest, taken or not."""
    if g >= len(shop.guests):
        return [NONE_SUCH]
    guest = shop.guests[g]
    found = [b for b in range(len(shop.boots)) if boots_suit(shop.boots[b], guest)]
    return [len(found)] + found


def tell_skis(shop, g, b):
    """The skis that suit a guest in boots, be these the right ones or not, taken or not."""
    if g >= len(shop.guests) or b >= len(shop.boots):
        return [NONE_SUCH]
    guest = shop.guests[g]
    setting = binding_setting(shop.chart, guest, shop.boots[b])
    found = [s for s in range(len(shop.skis)) if skis_suit(shop.skis[s], guest, setting)]
    return [len(found)] + found


def tell_could(shop, g, day, days, kind):
    """Whether there's a pair, even where no more hires can be booked."""
    if g >= len(shop.guests):
        return [NONE_SUCH]
    if not hire_as_told(shop, day, days, kind):
        return [OUT_OF_RANGE]
    if len(pairs_to_hire(shop, shop.guests[g], day, day + days - 1, kind)) == 0:
        return [0]
    return [1]


def tell_choices(shop, g, day, days, kind):
    """All pairs there are."""
    if g >= len(shop.guests):
        return [NONE_SUCH]
    if not hire_as_told(shop, day, days, kind):
        return [OUT_OF_RANGE]
    pairs = pairs_to_hire(shop, shop.guests[g], day, day + days - 1, kind)
    told = [len(pairs)]
    for pair in pairs:
        told.extend(pair)
    return told


def tell_longest(shop, g, day, kind):
    """For how many days there's a pair; one that is there for more days is there for fewer."""
    if g >= len(shop.guests):
        return [NONE_SUCH]
    if not hire_as_told(shop, day, 1, kind):
        return [OUT_OF_RANGE]
    guest = shop.guests[g]
    at_most = min(DAYS_AT_MOST, NO_DAYS_FROM - day)
    days = 0
    while days < at_most and len(pairs_to_hire(shop, guest, day, day + days, kind)) > 0:
        days = days + 1
    return [days]
