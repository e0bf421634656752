"""What a shop keeps. Skis, boots, guests and hires go by their place in the shop's lists."""

BOOKED = 0
OUT = 1
RETURNED = 2
CALLED_OFF = 3


class Chart:
    """Settings stand column by column for code 0, then for code 1, and so on."""

    def __init__(self, weights, heights, soles, settings):
        self.weights = weights
        self.heights = heights
        self.soles = soles
        self.settings = settings


class Ski:
    """A pair of skis; used counts all its days, used_since those since it was last served."""

    def __init__(self, length, kind, least, most):
        self.length = length
        self.kind = kind
        self.least = least
        self.most = most
        self.used = 0
        self.used_since = 0


class Boot:
    """A pair of boots."""

    def __init__(self, foot, sole):
        self.foot = foot
        self.sole = sole


class Guest:
    """A guest; manner is how they ski, 1 to 3."""

    def __init__(self, weight, height, age, manner, foot):
        self.weight = weight
        self.height = height
        self.age = age
        self.manner = manner
        self.foot = foot


class Hire:
    """A hire; its guest, ski and boot are numbers."""

    def __init__(self, guest, day, days, ski, boot):
        self.guest = guest
        self.day = day
        self.days = days
        self.ski = ski
        self.boot = boot
        self.state = BOOKED


class Shop:
    """A shop as it is just after its begin."""

    def __init__(self, first, more, fine, service):
        self.first = first
        self.more = more
        self.fine = fine
        self.service = service
        self.today = 0
        self.paid = 0
        self.chart = None
        self.skis = []
        self.boots = []
        self.guests = []
        self.hires = []


class Line:
    """One line of calls; it has no shop before a begin that isn't refused."""

    def __init__(self):
        self.shop = None
