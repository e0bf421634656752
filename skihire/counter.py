"""The calls of every day: give, back, serve, days."""

from skihire.fitting import binding_setting, setting_fits
from skihire.pricing import hire_costs
from skihire.records import BOOKED, OUT, RETURNED
from skihire.refusals import ALREADY, CANNOT_BE, NONE_SUCH, NOT_NOW, NOT_SO, OUT_OF_RANGE, SERVE_FIRST
from skihire.taking import boot_out, days_late, ski_out

DAYS_AT_ONCE_AT_MOST = 60


def give_out(shop, h):
    """Give a hire its things, the binding set for the guest as they are now."""
    if h >= len(shop.hires):
        return [NONE_SUCH]
    hire = shop.hires[h]
    if hire.state != BOOKED:
        return [NOT_SO]
    if hire.day > shop.today:
        return [NOT_NOW]
    # This hire isn't out itself, so whatever is out is out with another.
    if ski_out(shop, hire.ski) or boot_out(shop, hire.boot):
        return [ALREADY]
    ski = shop.skis[hire.ski]
    if ski.used_since >= shop.service:
        return [SERVE_FIRST]
    setting = binding_setting(shop.chart, shop.guests[hire.guest], shop.boots[hire.boot])
    if not setting_fits(ski, setting):
        return [CANNOT_BE]
    hire.state = OUT
    return [setting]


def take_back(shop, h):
    """Take a hire's things back."""
    if h >= len(shop.hires):
        return [NONE_SUCH]
    hire = shop.hires[h]
    if hire.state != OUT:
        return [NOT_SO]
    ski = shop.skis[hire.ski]
    used = shop.today - hire.day + 1
    ski.used = ski.used + used
    ski.used_since = ski.used_since + used
    pays = hire_costs(shop, hire)
    shop.paid = shop.paid + pays
    hire.state = RETURNED
    return [pays, days_late(hire, shop.today)]


def serve_skis(shop, s):
    """Serve skis; how much they were used in all stays."""
    if s >= len(shop.skis):
        return [NONE_SUCH]
    if ski_out(shop, s):
        return [ALREADY]
    ski = shop.skis[s]
    used_since = ski.used_since
    ski.used_since = 0
    return [used_since]


def pass_days(shop, n):
    """Let days go by."""
    if not 1 <= n <= DAYS_AT_ONCE_AT_MOST:
        return [OUT_OF_RANGE]
    shop.today = shop.today + n
    return [shop.today]
