"""The calls that say what there is: begin, chart, ski, boot, guest, becomes."""

from skihire.records import Boot, Chart, Guest, Shop, Ski
from skihire.refusals import NONE_SUCH, NOT_NOW, OUT_OF_RANGE, TOO_MANY

PRICE_AT_MOST = 1000
SERVICE_AT_MOST = 50
CODES_AT_MOST = 16
COLUMNS_AT_MOST = 8
SETTING_AT_LEAST = 5
SETTING_AT_MOST = 240
SKIS_AT_MOST = 16
BOOTS_AT_MOST = 16
GUESTS_AT_MOST = 20


def begin(line, first, more, fine, service):
    """Start anew: whatever was there is gone."""
    if max(first, more, fine) > PRICE_AT_MOST or not 1 <= service <= SERVICE_AT_MOST:
        return [OUT_OF_RANGE]
    line.shop = Shop(first, more, fine, service)
    return [0]


def rises(row):
    """Whether each number is greater than the one before."""
    for place in range(1, len(row)):
        if row[place] <= row[place - 1]:
            return False
    return True


def settings_as_told(settings):
    """Whether each setting is one that a chart may have; 0 stands for none."""
    for setting in settings:
        if setting > SETTING_AT_MOST:
            return False
    return True


def chart_as_told(weights, heights, soles, settings):
    """Whether the four rows make a chart."""
    if not 1 <= len(weights) <= CODES_AT_MOST or len(heights) != len(weights):
        return False
    if not 1 <= len(soles) <= COLUMNS_AT_MOST or len(settings) != len(weights) * len(soles):
        return False
    return rises(weights) and rises(heights) and rises(soles) and settings_as_told(settings)


def put_chart(shop, weights, heights, soles, settings):
    """Take a chart, in the place of the one before."""
    if len(shop.hires) > 0:
        return [NOT_NOW]
    if not chart_as_told(weights, heights, soles, settings):
        return [OUT_OF_RANGE]
    shop.chart = Chart(weights, heights, soles, settings)
    return [len(weights)]


def ski_as_told(length, kind, least, most):
    """Whether there may be such skis."""
    if not 70 <= length <= 210 or kind > 2:
        return False
    return SETTING_AT_LEAST <= least <= most <= SETTING_AT_MOST


def add_ski(shop, length, kind, least, most):
    """Add new skis."""
    if not ski_as_told(length, kind, least, most):
        return [OUT_OF_RANGE]
    if len(shop.skis) == SKIS_AT_MOST:
        return [TOO_MANY]
    shop.skis.append(Ski(length, kind, least, most))
    return [len(shop.skis) - 1]


def foot_as_told(foot):
    """Whether a foot may be so long."""
    return 150 <= foot <= 350


def add_boot(shop, foot, sole):
    """Add boots."""
    if not foot_as_told(foot) or not 180 <= sole <= 400:
        return [OUT_OF_RANGE]
    if len(shop.boots) == BOOTS_AT_MOST:
        return [TOO_MANY]
    shop.boots.append(Boot(foot, sole))
    return [len(shop.boots) - 1]


def body_as_told(weight, height, age, manner):
    """Whether a guest may be so; the foot is asked for apart, as it never changes."""
    if not 10 <= weight <= 150 or not 80 <= height <= 210:
        return False
    return 2 <= age <= 99 and 1 <= manner <= 3


def add_guest(shop, weight, height, age, manner, foot):
    """Add a guest."""
    if not body_as_told(weight, height, age, manner) or not foot_as_told(foot):
        return [OUT_OF_RANGE]
    if len(shop.guests) == GUESTS_AT_MOST:
        return [TOO_MANY]
    shop.guests.append(Guest(weight, height, age, manner, foot))
    return [len(shop.guests) - 1]


def change_guest(shop, g, weight, height, age, manner):
    """Say how a guest is now."""
    if g >= len(shop.guests):
        return [NONE_SUCH]
    if not body_as_told(weight, height, age, manner):
        return [OUT_OF_RANGE]
    shop.guests[g] = Guest(weight, height, age, manner, shop.guests[g].foot)
    return [0]
