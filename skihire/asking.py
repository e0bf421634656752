"""The calls that only look at what suits a guest: code, setting, ideal."""

from skihire.fitting import NO_SETTING, best_length, binding_setting, guest_code
from skihire.refusals import CANNOT_BE, NONE_SUCH


def tell_code(shop, g):
    """A guest's code."""
    if g >= len(shop.guests):
        return [NONE_SUCH]
    return [guest_code(shop.chart, shop.guests[g])]


def tell_setting(shop, g, b):
    """The setting for a guest and boots, be these the right ones or not."""
    if g >= len(shop.guests) or b >= len(shop.boots):
        return [NONE_SUCH]
    setting = binding_setting(shop.chart, shop.guests[g], shop.boots[b])
    if setting == NO_SETTING:
        return [CANNOT_BE]
    return [setting]


def tell_ideal(shop, g):
    """A guest's best length."""
    if g >= len(shop.guests):
        return [NONE_SUCH]
    return [best_length(shop.guests[g])]
