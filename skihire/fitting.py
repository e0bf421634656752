"""What suits whom: a guest's code and best length, the setting, boots and skis."""

NO_SETTING = 0
BOOTS_TOO_LONG_AT_MOST = 10
LENGTH_OFF_AT_MOST = 10
CHILD_BELOW = 10
OLDER_FROM = 50


def first_reaching(row, number):
    """The first place in a rising row that isn't below the number; the row's length if all are."""
    for place in range(len(row)):
        if row[place] >= number:
            return place
    return len(row)


def guest_code(chart, guest):
    """The guest's code on the chart."""
    last = len(chart.weights) - 1
    by_weight = first_reaching(chart.weights, guest.weight)
    by_height = first_reaching(chart.heights, guest.height)
    code = min(by_weight, by_height, last)
    # The age takes 1 off what the last code has bounded, so the order of these two steps counts.
    code = min(code + guest.manner - 1, last)
    if guest.age < CHILD_BELOW or guest.age >= OLDER_FROM:
        code = max(code - 1, 0)
    return code


def binding_setting(chart, guest, boot):
    """The chart's setting for a guest in boots, NO_SETTING if there's none."""
    column = first_reaching(chart.soles, boot.sole)
    if column == len(chart.soles):
        return NO_SETTING
    return chart.settings[guest_code(chart, guest) * len(chart.soles) + column]


def setting_fits(ski, setting):
    """Whether the skis' binding can be set so."""
    return setting != NO_SETTING and ski.least <= setting <= ski.most


def best_length(guest):
    """The length of skis that is best for a guest."""
    return guest.height - 15 + 5 * (guest.manner - 1)


def boots_too_long(boot, guest):
    """By how much boots are too long for a guest; below 0 if they're too short."""
    return boot.foot - guest.foot


def length_off(ski, guest):
    """How far the skis' length is from the guest's best one."""
    return abs(ski.length - best_length(guest))


def boots_suit(boot, guest):
    """Whether boots suit a guest."""
    return 0 <= boots_too_long(boot, guest) <= BOOTS_TOO_LONG_AT_MOST


def skis_suit(ski, guest, setting):
    """Whether skis suit a guest in boots that ask for such a setting."""
    return length_off(ski, guest) <= LENGTH_OFF_AT_MOST and setting_fits(ski, setting)
