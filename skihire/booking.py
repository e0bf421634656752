"""The calls that book, call off, and change what is booked: hire, cancel, swap."""

from skihire.fitting import binding_setting, skis_suit
from skihire.pairs import best_pair, pairs_to_hire
from skihire.records import BOOKED, CALLED_OFF, Hire
from skihire.refusals import ALREADY, CANNOT_BE, NONE_SUCH, NOT_SO, OUT_OF_RANGE, TOO_MANY
from skihire.taking import last_day, ski_taken

HIRES_AT_MOST = 40
DAYS_AT_MOST = 30
NO_DAYS_FROM = 400
GREATEST_KIND = 2


def hire_as_told(shop, day, days, kind):
    """Whether somebody may ask for such days and such a kind."""
    if day < shop.today or not 1 <= days <= DAYS_AT_MOST:
        return False
    return day + days <= NO_DAYS_FROM and kind <= GREATEST_KIND


def book_hire(shop, g, day, days, kind):
    """Book the best pair."""
    if g >= len(shop.guests):
        return [NONE_SUCH]
    if not hire_as_told(shop, day, days, kind):
        return [OUT_OF_RANGE]
    if len(shop.hires) == HIRES_AT_MOST:
        return [TOO_MANY]
    guest = shop.guests[g]
    pairs = pairs_to_hire(shop, guest, day, day + days - 1, kind)
    if len(pairs) == 0:
        return [CANNOT_BE]
    pair = best_pair(shop, guest, pairs)
    shop.hires.append(Hire(g, day, days, pair[0], pair[1]))
    setting = binding_setting(shop.chart, guest, shop.boots[pair[1]])
    return [len(shop.hires) - 1, pair[0], pair[1], setting]


def cancel_hire(shop, h):
    """Call a hire off."""
    if h >= len(shop.hires):
        return [NONE_SUCH]
    hire = shop.hires[h]
    if hire.state != BOOKED:
        return [NOT_SO]
    hire.state = CALLED_OFF
    return [0]


def fits_in_place(shop, hire, s):
    """Whether skis could be had in the place of a hire's own, if they aren't taken."""
    ski = shop.skis[s]
    if ski.kind != shop.skis[hire.ski].kind:
        return False
    guest = shop.guests[hire.guest]
    return skis_suit(ski, guest, binding_setting(shop.chart, guest, shop.boots[hire.boot]))


def swap_skis(shop, h, s):
    """Let a hire have other skis."""
    if h >= len(shop.hires) or s >= len(shop.skis):
        return [NONE_SUCH]
    hire = shop.hires[h]
    if hire.state != BOOKED:
        return [NOT_SO]
    if hire.ski == s:
        return [ALREADY]
    if ski_taken(shop, s, hire.day, last_day(hire)):
        return [TOO_MANY]
    if not fits_in_place(shop, hire, s):
        return [CANNOT_BE]
    had = hire.ski
    hire.ski = s
    return [had]
